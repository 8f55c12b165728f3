"""A second reading of the document, word by word and without regard to speed, to hold the program against."""

from fractions import Fraction

KINDS = {0: 1, 1: 2, 2: 2, 3: 2, 4: 2, 5: 2, 6: 1}


def weight(fraction):
    return abs(fraction.numerator).bit_length() + fraction.denominator.bit_length()


class Refused(Exception):
    pass


class Fault(Exception):
    pass


def read_code(numbers):
    lines = []
    numbers = list(numbers)
    while numbers:
        kind = numbers.pop(0)
        if kind not in KINDS or len(numbers) < KINDS[kind]:
            raise Refused(-2)
        line = [kind] + [numbers.pop(0) for _ in range(KINDS[kind])]
        if kind == 1 and line[2] < 1:
            raise Refused(-2)
        if kind != 1 and any(number < 0 for number in line):
            raise Refused(-2)
        lines.append(line)
    return lines


def run_code(lines, inputs):
    values = []
    for number, (kind, *rest) in enumerate(lines):
        if kind == 0:
            value = inputs[rest[0]]
        elif kind == 1:
            value = Fraction(rest[0], rest[1])
        elif kind == 2:
            value = values[rest[0]] + values[rest[1]]
        elif kind == 3:
            value = values[rest[0]] - values[rest[1]]
        elif kind == 4:
            value = values[rest[0]] * values[rest[1]]
        elif kind == 5:
            if values[rest[1]] == 0:
                raise Fault(number, 1)
            value = values[rest[0]] / values[rest[1]]
        else:
            value = -values[rest[0]]
        if weight(value) > 200:
            raise Fault(number, 2)
        values.append(value)
    return values


def changes(lines, values, direction):
    told = []
    for number, (kind, *rest) in enumerate(lines):
        i, j = rest[0], rest[-1]
        if kind == 0:
            told.append(direction[i])
        elif kind == 1:
            told.append(Fraction(0))
        elif kind == 2:
            told.append(told[i] + told[j])
        elif kind == 3:
            told.append(told[i] - told[j])
        elif kind == 4:
            told.append(told[i] * values[j] + values[i] * told[j])
        elif kind == 5:
            told.append((told[i] - values[number] * told[j]) / values[j])
        else:
            told.append(-told[i])
    return told


class Model:
    def __init__(self):
        self.chain = None
        self.told = None

    def fractions(self, numbers):
        parts = self.chain[0] if self.chain else 0
        if len(numbers) != 2 * parts or any(denominator < 1 for denominator in numbers[1::2]):
            raise Refused(-2)
        return [Fraction(numbers[k], numbers[k + 1]) for k in range(0, len(numbers), 2)]

    def states(self):
        if self.told is None:
            raise Refused(-4)
        steps, start = self.told
        parts, lines, outs = self.chain
        states = [start]
        for step in range(steps):
            try:
                values = run_code(lines, states[-1] + [Fraction(step)])
            except Fault as fault:
                raise Fault(step, *fault.args)
            states.append([values[out] for out in outs])
        return states

    def good_states(self):
        try:
            return self.states()
        except Fault:
            raise Refused(-5)

    def pushed(self, direction, state, step):
        parts, lines, outs = self.chain
        told = changes(lines, run_code(lines, state + [Fraction(step)]), direction + [Fraction(0)])
        return [told[out] for out in outs]

    def tell(self, fractions):
        if any(weight(fraction) > 4000 for fraction in fractions):
            raise Refused(-6)
        told = [len(fractions)]
        for fraction in fractions:
            told += [fraction.numerator, fraction.denominator]
        return told

    def call_0(self, parts, numbers, outs):
        if not 1 <= parts <= 4:
            raise Refused(-1)
        lines = read_code(numbers)
        if len(lines) > 30:
            raise Refused(-7)
        for number, (kind, *rest) in enumerate(lines):
            if kind == 0 and rest[0] > parts or kind > 1 and max(rest) >= number:
                raise Refused(-3)
        if len(outs) != parts or not all(0 <= out < len(lines) for out in outs):
            raise Refused(-2)
        self.chain = (parts, lines, outs)
        self.told = None
        return [len(lines)]

    def call_1(self, steps, numbers):
        if not 1 <= steps <= 40:
            raise Refused(-1)
        if self.chain is None:
            raise Refused(-4)
        self.told = (steps, self.fractions(numbers))
        try:
            self.states()
        except Fault as fault:
            return [1, *fault.args]
        return [0]

    def call_2(self, number):
        if not 0 <= number <= (self.told[0] if self.told else 0):
            raise Refused(-1)
        return self.tell(self.good_states()[number])

    def call_3(self, numbers):
        weights = self.fractions(numbers)
        states = self.good_states()
        parts = self.chain[0]
        for step in reversed(range(len(states) - 1)):
            turned = []
            for k in range(parts):
                pushed = self.pushed([Fraction(int(k == part)) for part in range(parts)], states[step], step)
                turned.append(sum(weights[part] * pushed[part] for part in range(parts)))
            weights = turned
        return self.tell(weights)

    def call_4(self, numbers):
        direction = self.fractions(numbers)
        states = self.good_states()
        for step in range(len(states) - 1):
            direction = self.pushed(direction, states[step], step)
        return self.tell(direction)

    def answer(self, number, *arguments):
        try:
            return [self.call_0, self.call_1, self.call_2, self.call_3, self.call_4][number](*arguments)
        except Refused as refused:
            return list(refused.args)
