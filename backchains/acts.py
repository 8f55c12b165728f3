"""Acts of a schedule: read from numbers, told in numbers, and done one by one."""

from backchains.pieces import cut

TAKE = 0
KEEP = 1
STEP = 2
TURN = 3

# How many numbers an act of each kind is told in, the kind among them.
ACT_LENGTHS = (2, 2, 1, 1)

NO_SLOT = 1
SLOT_IS_EMPTY = 2
NOTHING_AT_HAND = 3
LAST_AT_HAND = 4
OTHER_IS_LEFT = 5
STEPS_ARE_LEFT = 6


class Desk:
    def __init__(self, steps, slots):
        self.steps = steps
        # Of a state its number is held: no more is asked for, and the run tells what it is.
        self.slots = [0] + [None] * (slots - 1)
        self.hand = None
        self.left = steps
        self.stepped = 0
        # The steps that weights are turned through, in the order of the turns.
        self.turned = []


def read_acts(numbers):
    """The acts, each a tuple of its kind and its slot if it has one, or None if the list isn't of that form."""
    acts = cut(numbers, ACT_LENGTHS)
    if acts is None or any([min(act) < 0 for act in acts]):
        return None
    return acts


def told_acts(acts):
    """The acts in numbers, one behind the other."""
    numbers = []
    for act in acts:
        numbers.extend(act)
    return numbers


def play_acts(desk, acts):
    """Does the acts up to one that can't be done.

    Gives that act's number and the reason, or an empty list if the schedule can be played.
    """
    for number, act in enumerate(acts):
        reason = reason_against(desk, act)
        if reason:
            return [number, reason]
        do_act(desk, act)
    if desk.left:
        return [len(acts), STEPS_ARE_LEFT]
    return []


def reason_against(desk, act):
    """Why the act can't be done, 0 if it can."""
    kind = act[0]
    if kind in (TAKE, KEEP) and act[1] >= len(desk.slots):
        return NO_SLOT
    if kind == TAKE:
        return SLOT_IS_EMPTY if desk.slots[act[1]] is None else 0
    if desk.hand is None:
        return NOTHING_AT_HAND
    if kind == STEP and desk.hand == desk.steps:
        return LAST_AT_HAND
    if kind == TURN and desk.hand + 1 != desk.left:
        return OTHER_IS_LEFT
    return 0


def do_act(desk, act):
    kind = act[0]
    if kind == TAKE:
        desk.hand = desk.slots[act[1]]
    elif kind == KEEP:
        desk.slots[act[1]] = desk.hand
    elif kind == STEP:
        desk.hand += 1
        desk.stepped += 1
    else:
        desk.turned.append(desk.hand)
        desk.left = desk.hand


def count_filled(desk):
    return len([held for held in desk.slots if held is not None])
