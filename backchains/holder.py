"""The object that the calls are on. Each call answers a list of numbers; a refusal is its number alone."""

from backchains.acts import Desk, count_filled, play_acts, read_acts, told_acts
from backchains.changes import push, row_of, turn
from backchains.leasts import MOST_SLOTS, MOST_STEPS, fewest_slots, least_columns, most_steps, parted_at
from backchains.linecode import read_lines, uses_known
from backchains.rational import lowest_within, read_fractions
from backchains.runs import Chain, run_chain, tables_of
from backchains.schedules import told_schedule

OUT_OF_RANGE = -1
BAD_FORM = -2
USES_UNKNOWN = -3
NO_RUN = -4
HAS_FAULT = -5
TOO_HEAVY = -6
TOO_MANY = -7
NOT_PLAYED = -8

MOST_PARTS = 4
MOST_LINES = 30
MOST_RUN = 40
MOST_TOLD_WEIGHT = 4000
MOST_FORWARD = 1000000
MOST_ACTS = 2000
MOST_SCHEDULE_STEPS = 50
MOST_SCHEDULE_SLOTS = 10


class Holder:
    def __init__(self):
        self.chain = None
        self.run = None
        self.columns = []

    def tell_chain(self, parts, numbers, outs):
        if not within(parts, 1, MOST_PARTS):
            return [OUT_OF_RANGE]
        lines = read_lines(numbers)
        if lines is None:
            return [BAD_FORM]
        if len(lines) > MOST_LINES:
            return [TOO_MANY]
        if not uses_known(lines, parts + 1):
            return [USES_UNKNOWN]
        if len(outs) != parts or not all([within(out, 0, len(lines) - 1) for out in outs]):
            return [BAD_FORM]
        self.chain = Chain(parts, lines, outs)
        self.run = None
        return [len(lines)]

    def tell_run(self, steps, numbers):
        if not within(steps, 1, MOST_RUN):
            return [OUT_OF_RANGE]
        if self.chain is None:
            return [NO_RUN]
        start = read_fractions(numbers, self.chain.parts)
        if start is None:
            return [BAD_FORM]
        self.run = run_chain(self.chain, steps, start)
        if self.run.fault:
            return [1] + self.run.fault
        return [0]

    def state(self, number):
        if not within(number, 0, 0 if self.run is None else self.run.steps):
            return [OUT_OF_RANGE]
        refusal = self.run_refusal()
        if refusal:
            return [refusal]
        return told_fractions(row_of(self.run.states[number]))

    def backward(self, numbers):
        weights = read_fractions(numbers, self.count_parts())
        refusal = self.fractions_refusal(weights)
        if refusal:
            return [refusal]
        return self.turn_through(list(range(self.run.steps - 1, -1, -1)), weights)

    def forward(self, numbers):
        direction = read_fractions(numbers, self.count_parts())
        refusal = self.fractions_refusal(direction)
        if refusal:
            return [refusal]
        row = row_of(direction)
        for table in tables_of(self.chain, self.run):
            row = push(row, table)
        return told_fractions(row)

    def least(self, steps, slots):
        if not within(steps, 1, MOST_STEPS) or not within(slots, 1, MOST_SLOTS):
            return [OUT_OF_RANGE]
        return [self.all_columns()[slots - 1][steps]]

    def parting(self, steps, slots):
        if not within(steps, 2, MOST_STEPS) or not within(slots, 2, MOST_SLOTS):
            return [OUT_OF_RANGE]
        return [parted_at(steps, slots, self.all_columns())]

    def most(self, slots, limit):
        if not within(slots, 1, MOST_SLOTS) or not within(limit, 0, MOST_FORWARD):
            return [OUT_OF_RANGE]
        return [most_steps(slots, limit, self.all_columns())]

    def room(self, steps, limit):
        if not within(steps, 1, MOST_STEPS) or not within(limit, 0, MOST_FORWARD):
            return [OUT_OF_RANGE]
        return [fewest_slots(steps, limit, self.all_columns())]

    def schedule(self, steps, slots):
        if not within(steps, 1, MOST_SCHEDULE_STEPS) or not within(slots, 1, MOST_SCHEDULE_SLOTS):
            return [OUT_OF_RANGE]
        numbers = told_acts(told_schedule(steps, slots, self.all_columns()))
        return [len(numbers)] + numbers

    def check(self, steps, slots, act_numbers):
        if not within(steps, 1, MOST_SCHEDULE_STEPS) or not within(slots, 1, MOST_SCHEDULE_SLOTS):
            return [OUT_OF_RANGE]
        acts = read_acts(act_numbers)
        refusal = acts_refusal(acts)
        if refusal:
            return [refusal]
        desk = Desk(steps, slots)
        hindrance = play_acts(desk, acts)
        if hindrance:
            return [1] + hindrance
        return [0, desk.stepped, count_filled(desk)]

    def play(self, slots, act_numbers, numbers):
        if not within(slots, 1, MOST_SCHEDULE_SLOTS):
            return [OUT_OF_RANGE]
        acts = read_acts(act_numbers)
        refusal = acts_refusal(acts)
        if refusal:
            return [refusal]
        weights = read_fractions(numbers, self.count_parts())
        refusal = self.fractions_refusal(weights)
        if refusal:
            return [refusal]
        return self.turn_as_told(acts, slots, weights)

    def auto(self, slots, numbers):
        if not within(slots, 1, MOST_SCHEDULE_SLOTS):
            return [OUT_OF_RANGE]
        weights = read_fractions(numbers, self.count_parts())
        refusal = self.fractions_refusal(weights)
        if refusal:
            return [refusal]
        return self.turn_as_told(told_schedule(self.run.steps, slots, self.all_columns()), slots, weights)

    def turn_as_told(self, acts, slots, weights):
        desk = Desk(self.run.steps, slots)
        if play_acts(desk, acts):
            return [NOT_PLAYED]
        return self.turn_through(desk.turned, weights)

    def turn_through(self, order, weights):
        """The weights turned through these steps, each at its state in the run."""
        tables = tables_of(self.chain, self.run)
        row = row_of(weights)
        for step in order:
            row = turn(row, tables[step])
        return told_fractions(row)

    def count_parts(self):
        """How many fractions a list has to have."""
        return 0 if self.chain is None else self.chain.parts

    def fractions_refusal(self, fractions):
        """The refusal of fractions that were read, and ask for a run; 0 if there is none."""
        return BAD_FORM if fractions is None else self.run_refusal()

    def run_refusal(self):
        """The refusal of what asks for a run without a fault, 0 if there is such a run."""
        if self.run is None:
            return NO_RUN
        if self.run.fault:
            return HAS_FAULT
        return 0

    def all_columns(self):
        # Worked out once for all calls, and only if one asks.
        if not self.columns:
            self.columns = least_columns()
        return self.columns


def within(number, low, high):
    return low <= number and number <= high


def acts_refusal(acts):
    """The refusal of acts that were read, 0 if they may stand."""
    if acts is None:
        return BAD_FORM
    if len(acts) > MOST_ACTS:
        return TOO_MANY
    return 0


def told_fractions(row):
    """The row's fractions as an answer, or the refusal of those that are too heavy."""
    told = [len(row[0])]
    for numerator in row[0]:
        fraction = lowest_within(numerator, row[1], MOST_TOLD_WEIGHT)
        if fraction is None:
            return [TOO_HEAVY]
        told.extend(fraction)
    return told
