"""Builds lists of calls, and parts a list of answers into the answer of each call."""

from backchains.chain import answers

MOST = 10 ** 18


def flat(lists):
    return [number for numbers in lists for number in numbers]


def row(numbers):
    return [len(numbers)] + list(numbers)


def chain(parts, lines, outs):
    return [0, parts] + row(flat(lines)) + row(outs)


def raw_chain(parts, numbers, outs):
    return [0, parts] + row(numbers) + row(outs)


def run(steps, numbers):
    return [1, steps] + row(numbers)


def state(number):
    return [2, number]


def backward(numbers):
    return [3] + row(numbers)


def forward(numbers):
    return [4] + row(numbers)


def least(steps, slots):
    return [5, steps, slots]


def split(steps, slots):
    return [6, steps, slots]


def most(slots, limit):
    return [7, slots, limit]


def room(steps, limit):
    return [8, steps, limit]


def schedule(steps, slots):
    return [9, steps, slots]


def check(steps, slots, acts):
    """Acts are numbers one behind the other, or lists of them."""
    return [10, steps, slots] + row(act_numbers(acts))


def play(slots, acts, numbers):
    return [11, slots] + row(act_numbers(acts)) + row(numbers)


def auto(slots, numbers):
    return [12, slots] + row(numbers)


def take(slot):
    return [0, slot]


def keep(slot):
    return [1, slot]


STEP = [2]
TURN = [3]


def act_numbers(acts):
    return flat(act if isinstance(act, list) else [act] for act in acts)


def part(told):
    """The answers, a list for each call."""
    parted = []
    place = 0
    while place < len(told):
        parted.append(told[place + 1:place + 1 + told[place]])
        place += 1 + told[place]
    return parted


def ask(*calls):
    """The answers to these calls on one new object."""
    return part(answers(flat(calls)))


def last(*calls):
    return ask(*calls)[-1]


def told_acts(steps, slots):
    """The numbers of the told schedule."""
    return last(schedule(steps, slots))[1:]


# x, y -> x * y + x, y: after n steps x * (1 + y) ** n, y.
GROWING = chain(2, [[0, 0], [0, 1], [4, 0, 1], [2, 2, 0]], [3, 1])
# x -> x + i in step i.
COUNTING = chain(1, [[0, 0], [0, 1], [2, 0, 1]], [2])
# x -> x - 1, but 1 / x is worked out too: a fault at 0.
SINKING = chain(1, [[0, 0], [1, 1, 1], [5, 1, 0], [3, 0, 1]], [3])
