"""Changes of lines, and directions and weights taken through a step.

A row is a pair (numerators, denominator): fractions over one denominator, not
always in lowest terms. A table is a pair (list of numerators for each out,
denominator): how each part of a step's new state hangs on each part of its state.
"""

from backchains.linecode import CONSTANT, DIFFERENCE, INPUT, OPPOSITE, PRODUCT, SUM
from backchains.rational import MINUS_ONE, ONE, divide, greatest_divisor, multiply, opposite


def row_of(fractions):
    denominator = 1
    for fraction in fractions:
        denominator = denominator * fraction[1]
    return ([fraction[0] * (denominator // fraction[1]) for fraction in fractions], denominator)


def least_multiple(a, b):
    return a // greatest_divisor(a, b) * b


def scale(row, fraction):
    return ([x * fraction[0] for x in row[0]], row[1] * fraction[1])


def add_rows(a, b):
    denominator = least_multiple(a[1], b[1])
    for_a = denominator // a[1]
    for_b = denominator // b[1]
    return shorten([x * for_a + y * for_b for x, y in zip(a[0], b[0])], denominator)


def shorten(numerators, denominator):
    """The row of these, less what divides them all: else it would grow from line to line."""
    divisor = denominator
    for x in numerators:
        if divisor == 1:
            return (numerators, denominator)
        divisor = greatest_divisor(abs(x), divisor)
    return ([x // divisor for x in numerators], denominator // divisor)


def slopes(line, number, values):
    """Pairs (earlier line, fraction): the line's change is their changes, each times its fraction, added."""
    kind = line[0]
    if kind == OPPOSITE:
        return [(line[1], MINUS_ONE)]
    if kind == SUM:
        return [(line[1], ONE), (line[2], ONE)]
    if kind == DIFFERENCE:
        return [(line[1], ONE), (line[2], MINUS_ONE)]
    if kind == PRODUCT:
        return [(line[1], values[line[2]]), (line[2], values[line[1]])]
    over = divide(ONE, values[line[2]])
    return [(line[1], over), (line[2], opposite(multiply(values[number], over)))]


def change_row(number, lines, values, rows, parts):
    """The changes of a line along the directions that are 1 at one part of the state and 0 elsewhere."""
    line = lines[number]
    if line[0] == INPUT:
        return ([1 if k == line[1] else 0 for k in range(parts)], 1)
    row = ([0] * parts, 1)
    if line[0] == CONSTANT:
        return row
    for earlier, slope in slopes(line, number, values):
        row = add_rows(row, scale(rows[earlier], slope))
    return row


def step_table(chain, values):
    """The table of a step in which the chain's lines have these values."""
    rows = []
    for number in range(len(chain.lines)):
        rows.append(change_row(number, chain.lines, values, rows, chain.parts))
    denominator = 1
    for out in chain.outs:
        denominator = least_multiple(denominator, rows[out][1])
    return ([numerators_over(denominator, rows[out]) for out in chain.outs], denominator)


def numerators_over(denominator, row):
    """The row's numerators over a denominator that is a multiple of its own."""
    factor = denominator // row[1]
    return [x * factor for x in row[0]]


def dot(xs, ys):
    return sum([x * y for x, y in zip(xs, ys)])


def push(direction, table):
    """A row of the direction behind the step, of a row of the one ahead of it."""
    return ([dot(numerators, direction[0]) for numerators in table[0]], direction[1] * table[1])


def turn(weights, table):
    """A row of the weights ahead of the step, of a row of those behind it."""
    turned = [dot(weights[0], column_of(table, k)) for k in range(len(table[0]))]
    return (turned, weights[1] * table[1])


def column_of(table, k):
    """How each part of the new state hangs on part k of the state."""
    return [numerators[k] for numerators in table[0]]
