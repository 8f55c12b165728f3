"""Line code: its lines read from numbers, and run at a point."""

from backchains.pieces import cut
from backchains.rational import add, divide, lowest, multiply, opposite, subtract, weight

INPUT = 0
CONSTANT = 1
SUM = 2
DIFFERENCE = 3
PRODUCT = 4
QUOTIENT = 5
OPPOSITE = 6

# How many numbers a line of each kind is told in, the kind among them.
LENGTHS = (2, 3, 3, 3, 3, 3, 2)

DIVISOR_IS_0 = 1
TOO_HEAVY = 2
MOST_WEIGHT = 200


def read_lines(numbers):
    """The lines, each a tuple of its kind and its numbers, or None if the list isn't lines one behind the other."""
    lines = cut(numbers, LENGTHS)
    if lines is None or not all([well_formed(line) for line in lines]):
        return None
    return lines


def well_formed(line):
    if line[0] == CONSTANT:
        return line[2] >= 1
    return min(line) >= 0


def uses_known(lines, inputs):
    """Whether each line uses only earlier lines, and inputs below the count that's handed in."""
    for number, line in enumerate(lines):
        if line[0] == CONSTANT:
            continue
        limit = inputs if line[0] == INPUT else number
        if max(line[1:]) >= limit:
            return False
    return True


def run_code(lines, inputs):
    """The values of the lines ahead of the first fault, and the fault's number, 0 if there's none."""
    values = []
    for line in lines:
        value = work_out(line, values, inputs)
        if value is None:
            return (values, DIVISOR_IS_0)
        if weight(value) > MOST_WEIGHT:
            return (values, TOO_HEAVY)
        values.append(value)
    return (values, 0)


def work_out(line, values, inputs):
    """The line's value, or None if it's a quotient whose divisor is 0."""
    kind = line[0]
    if kind == INPUT:
        return inputs[line[1]]
    if kind == CONSTANT:
        return lowest(line[1], line[2])
    first = values[line[1]]
    if kind == OPPOSITE:
        return opposite(first)
    second = values[line[2]]
    if kind == SUM:
        return add(first, second)
    if kind == DIFFERENCE:
        return subtract(first, second)
    if kind == PRODUCT:
        return multiply(first, second)
    if second[0] == 0:
        return None
    return divide(first, second)
