"""A second reading of the document, word by word and without regard to speed, to hold the program against."""

import functools
from fractions import Fraction

KINDS = {0: 1, 1: 2, 2: 2, 3: 2, 4: 2, 5: 2, 6: 1}


def weight(fraction):
    return abs(fraction.numerator).bit_length() + fraction.denominator.bit_length()


class Refused(Exception):
    pass


class Fault(Exception):
    pass


def read_code(numbers):
    lines = []
    numbers = list(numbers)
    while numbers:
        kind = numbers.pop(0)
        if kind not in KINDS or len(numbers) < KINDS[kind]:
            raise Refused(-2)
        line = [kind] + [numbers.pop(0) for _ in range(KINDS[kind])]
        if kind == 1 and line[2] < 1:
            raise Refused(-2)
        if kind != 1 and any(number < 0 for number in line):
            raise Refused(-2)
        lines.append(line)
    return lines


def run_code(lines, inputs):
    values = []
    for number, (kind, *rest) in enumerate(lines):
        if kind == 0:
            value = inputs[rest[0]]
        elif kind == 1:
            value = Fraction(rest[0], rest[1])
        elif kind == 2:
            value = values[rest[0]] + values[rest[1]]
        elif kind == 3:
            value = values[rest[0]] - values[rest[1]]
        elif kind == 4:
            value = values[rest[0]] * values[rest[1]]
        elif kind == 5:
            if values[rest[1]] == 0:
                raise Fault(number, 1)
            value = values[rest[0]] / values[rest[1]]
        else:
            value = -values[rest[0]]
        if weight(value) > 200:
            raise Fault(number, 2)
        values.append(value)
    return values


def changes(lines, values, direction):
    told = []
    for number, (kind, *rest) in enumerate(lines):
        i, j = rest[0], rest[-1]
        if kind == 0:
            told.append(direction[i])
        elif kind == 1:
            told.append(Fraction(0))
        elif kind == 2:
            told.append(told[i] + told[j])
        elif kind == 3:
            told.append(told[i] - told[j])
        elif kind == 4:
            told.append(told[i] * values[j] + values[i] * told[j])
        elif kind == 5:
            told.append((told[i] - values[number] * told[j]) / values[j])
        else:
            told.append(-told[i])
    return told


@functools.lru_cache(maxsize=None)
def least(n, c):
    if n < 2:
        return 0
    if c == 1:
        return n * (n - 1) // 2
    return min(m + least(n - m, c - 1) + least(m, c) for m in range(1, n))


def parted(n, c):
    return next(m for m in range(1, n) if m + least(n - m, c - 1) + least(m, c) == least(n, c))


def told(n, s, free):
    """S(n, s, free slots): acts as lists of numbers."""
    if n == 0:
        return []
    if n == 1:
        return [[0, s], [3]]
    if not free:
        acts = []
        for i in range(n - 1, -1, -1):
            acts += [[0, s]] + [[2]] * i + [[3]]
        return acts
    x, *others = free
    m = parted(n, len(free) + 1)
    return [[0, s]] + [[2]] * m + [[1, x]] + told(n - m, x, others) + told(m, s, [x] + others)


def told_schedule(n, c):
    return told(n, 0, list(range(1, c)))


def read_acts(numbers):
    acts = []
    numbers = list(numbers)
    while numbers:
        kind = numbers.pop(0)
        if kind in (2, 3):
            acts.append([kind])
            continue
        if kind not in (0, 1) or not numbers or numbers[0] < 0:
            raise Refused(-2)
        acts.append([kind, numbers.pop(0)])
    if len(acts) > 2000:
        raise Refused(-7)
    return acts


class NotPlayed(Exception):
    pass


class Player:
    """Plays a schedule with the states themselves in the slots."""

    def __init__(self, n, c, start, step, turn):
        self.n, self.c, self.left = n, c, n
        self.slots = {0: (0, start)}
        self.hand = None
        self.step, self.turn = step, turn
        self.forward = 0

    def do(self, number, kind, k=None):
        if kind in (0, 1) and k > self.c - 1:
            raise NotPlayed(number, 1)
        if kind == 0 and k not in self.slots:
            raise NotPlayed(number, 2)
        if kind != 0 and self.hand is None:
            raise NotPlayed(number, 3)
        if kind == 0:
            self.hand = self.slots[k]
        elif kind == 1:
            self.slots[k] = self.hand
        elif kind == 2:
            i, state = self.hand
            if i == self.n:
                raise NotPlayed(number, 4)
            self.hand = (i + 1, self.step(i, state))
            self.forward += 1
        else:
            i, state = self.hand
            if self.left != i + 1:
                raise NotPlayed(number, 5)
            self.turn(i, state)
            self.left = i

    def play(self, acts):
        for number, act in enumerate(acts):
            self.do(number, *act)
        if self.left:
            raise NotPlayed(len(acts), 6)


def in_range(number, low, high):
    if not low <= number <= high:
        raise Refused(-1)


class Model:
    def __init__(self):
        self.chain = None
        self.told = None

    def fractions(self, numbers):
        parts = self.chain[0] if self.chain else 0
        if len(numbers) != 2 * parts or any(denominator < 1 for denominator in numbers[1::2]):
            raise Refused(-2)
        return [Fraction(numbers[k], numbers[k + 1]) for k in range(0, len(numbers), 2)]

    def states(self):
        if self.told is None:
            raise Refused(-4)
        steps, start = self.told
        parts, lines, outs = self.chain
        states = [start]
        for step in range(steps):
            try:
                values = run_code(lines, states[-1] + [Fraction(step)])
            except Fault as fault:
                raise Fault(step, *fault.args)
            states.append([values[out] for out in outs])
        return states

    def good_states(self):
        try:
            return self.states()
        except Fault:
            raise Refused(-5)

    def pushed(self, direction, state, step):
        parts, lines, outs = self.chain
        told = changes(lines, run_code(lines, state + [Fraction(step)]), direction + [Fraction(0)])
        return [told[out] for out in outs]

    def tell(self, fractions):
        if any(weight(fraction) > 4000 for fraction in fractions):
            raise Refused(-6)
        told = [len(fractions)]
        for fraction in fractions:
            told += [fraction.numerator, fraction.denominator]
        return told

    def call_0(self, parts, numbers, outs):
        if not 1 <= parts <= 4:
            raise Refused(-1)
        lines = read_code(numbers)
        if len(lines) > 30:
            raise Refused(-7)
        for number, (kind, *rest) in enumerate(lines):
            if kind == 0 and rest[0] > parts or kind > 1 and max(rest) >= number:
                raise Refused(-3)
        if len(outs) != parts or not all(0 <= out < len(lines) for out in outs):
            raise Refused(-2)
        self.chain = (parts, lines, outs)
        self.told = None
        return [len(lines)]

    def call_1(self, steps, numbers):
        if not 1 <= steps <= 40:
            raise Refused(-1)
        if self.chain is None:
            raise Refused(-4)
        self.told = (steps, self.fractions(numbers))
        try:
            self.states()
        except Fault as fault:
            return [1, *fault.args]
        return [0]

    def call_2(self, number):
        if not 0 <= number <= (self.told[0] if self.told else 0):
            raise Refused(-1)
        return self.tell(self.good_states()[number])

    def turned(self, weights, state, step):
        parts = self.chain[0]
        turned = []
        for k in range(parts):
            pushed = self.pushed([Fraction(int(k == part)) for part in range(parts)], state, step)
            turned.append(sum(weights[part] * pushed[part] for part in range(parts)))
        return turned

    def call_3(self, numbers):
        weights = self.fractions(numbers)
        states = self.good_states()
        for step in reversed(range(len(states) - 1)):
            weights = self.turned(weights, states[step], step)
        return self.tell(weights)

    def call_4(self, numbers):
        direction = self.fractions(numbers)
        states = self.good_states()
        for step in range(len(states) - 1):
            direction = self.pushed(direction, states[step], step)
        return self.tell(direction)

    def call_5(self, n, c):
        in_range(n, 1, 60)
        in_range(c, 1, 20)
        return [least(n, c)]

    def call_6(self, n, c):
        in_range(n, 2, 60)
        in_range(c, 2, 20)
        return [parted(n, c)]

    def call_7(self, c, t):
        in_range(c, 1, 20)
        in_range(t, 0, 1000000)
        return [max(n for n in range(61) if least(n, c) <= t)]

    def call_8(self, n, t):
        in_range(n, 1, 60)
        in_range(t, 0, 1000000)
        return [next((c for c in range(1, 21) if least(n, c) <= t), 0)]

    def call_9(self, n, c):
        in_range(n, 1, 50)
        in_range(c, 1, 10)
        numbers = [number for act in told_schedule(n, c) for number in act]
        return [len(numbers)] + numbers

    def call_10(self, n, c, numbers):
        in_range(n, 1, 50)
        in_range(c, 1, 10)
        acts = read_acts(numbers)
        player = Player(n, c, None, lambda i, state: None, lambda i, state: None)
        try:
            player.play(acts)
        except NotPlayed as hindered:
            return [1, *hindered.args]
        return [0, player.forward, len(player.slots)]

    def played(self, c, acts, weights):
        steps, start = self.told
        parts, lines, outs = self.chain

        def step(i, state):
            values = run_code(lines, state + [Fraction(i)])
            return [values[out] for out in outs]

        def turn(i, state):
            weights[:] = self.turned(weights, state, i)

        try:
            Player(steps, c, start, step, turn).play(acts)
        except NotPlayed:
            raise Refused(-8)
        return self.tell(weights)

    def call_11(self, c, numbers, weight_numbers):
        in_range(c, 1, 10)
        acts = read_acts(numbers)
        weights = self.fractions(weight_numbers)
        self.good_states()
        return self.played(c, acts, weights)

    def call_12(self, c, numbers):
        in_range(c, 1, 10)
        weights = self.fractions(numbers)
        self.good_states()
        return self.played(c, told_schedule(self.told[0], c), weights)

    def answer(self, number, *arguments):
        try:
            return getattr(self, f"call_{number}")(*arguments)
        except Refused as refused:
            return list(refused.args)
