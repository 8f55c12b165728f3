"""The object that the calls are on. Each call answers a list of numbers; a refusal is its number alone."""

from backchains.changes import push, row_of, turn
from backchains.leasts import MOST_SLOTS, MOST_STEPS, least_columns, parted_at
from backchains.linecode import read_lines, uses_known
from backchains.rational import lowest_within, read_fractions
from backchains.runs import Chain, run_chain, tables_of

OUT_OF_RANGE = -1
BAD_FORM = -2
USES_UNKNOWN = -3
NO_RUN = -4
HAS_FAULT = -5
TOO_HEAVY = -6
TOO_MANY = -7

MOST_PARTS = 4
MOST_LINES = 30
MOST_RUN = 40
MOST_TOLD_WEIGHT = 4000


class Holder:
    def __init__(self):
        self.chain = None
        self.run = None
        self.columns = []

    def tell_chain(self, parts, numbers, outs):
        if not within(parts, 1, MOST_PARTS):
            return [OUT_OF_RANGE]
        lines = read_lines(numbers)
        if lines is None:
            return [BAD_FORM]
        if len(lines) > MOST_LINES:
            return [TOO_MANY]
        if not uses_known(lines, parts + 1):
            return [USES_UNKNOWN]
        if len(outs) != parts or not all([within(out, 0, len(lines) - 1) for out in outs]):
            return [BAD_FORM]
        self.chain = Chain(parts, lines, outs)
        self.run = None
        return [len(lines)]

    def tell_run(self, steps, numbers):
        if not within(steps, 1, MOST_RUN):
            return [OUT_OF_RANGE]
        if self.chain is None:
            return [NO_RUN]
        start = read_fractions(numbers, self.chain.parts)
        if start is None:
            return [BAD_FORM]
        self.run = run_chain(self.chain, steps, start)
        if self.run.fault:
            return [1] + self.run.fault
        return [0]

    def state(self, number):
        if not within(number, 0, 0 if self.run is None else self.run.steps):
            return [OUT_OF_RANGE]
        refusal = self.run_refusal()
        if refusal:
            return [refusal]
        return told_fractions(row_of(self.run.states[number]))

    def backward(self, numbers):
        weights = read_fractions(numbers, self.count_parts())
        if weights is None:
            return [BAD_FORM]
        refusal = self.run_refusal()
        if refusal:
            return [refusal]
        row = row_of(weights)
        for table in reversed(tables_of(self.chain, self.run)):
            row = turn(row, table)
        return told_fractions(row)

    def forward(self, numbers):
        direction = read_fractions(numbers, self.count_parts())
        if direction is None:
            return [BAD_FORM]
        refusal = self.run_refusal()
        if refusal:
            return [refusal]
        row = row_of(direction)
        for table in tables_of(self.chain, self.run):
            row = push(row, table)
        return told_fractions(row)

    def least(self, steps, slots):
        if not within(steps, 1, MOST_STEPS) or not within(slots, 1, MOST_SLOTS):
            return [OUT_OF_RANGE]
        return [self.all_columns()[slots - 1][steps]]

    def parting(self, steps, slots):
        if not within(steps, 2, MOST_STEPS) or not within(slots, 2, MOST_SLOTS):
            return [OUT_OF_RANGE]
        return [parted_at(steps, slots, self.all_columns())]

    def count_parts(self):
        """How many fractions a list has to have."""
        return 0 if self.chain is None else self.chain.parts

    def run_refusal(self):
        """The refusal of what asks for a run without a fault, 0 if there is such a run."""
        if self.run is None:
            return NO_RUN
        if self.run.fault:
            return HAS_FAULT
        return 0

    def all_columns(self):
        # Worked out once for all calls, and only if one asks.
        if not self.columns:
            self.columns = least_columns()
        return self.columns


def within(number, low, high):
    return low <= number and number <= high


def told_fractions(row):
    """The row's fractions as an answer, or the refusal of those that are too heavy."""
    told = [len(row[0])]
    for numerator in row[0]:
        fraction = lowest_within(numerator, row[1], MOST_TOLD_WEIGHT)
        if fraction is None:
            return [TOO_HEAVY]
        told.extend(fraction)
    return told
