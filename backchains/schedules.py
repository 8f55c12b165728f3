"""The told schedule for a number of steps and of slots."""

from backchains.acts import KEEP, STEP, TAKE, TURN
from backchains.leasts import parted_at


def told_schedule(steps, slots, columns):
    """Its acts; the columns are those of the least numbers."""
    acts = []
    # Stretches yet to be gone through, the next one last: how many steps, the slot of their
    # first state, and the first free slot. From that one on all slots are free, for a slot
    # is free again as soon as the stretch behind it is through.
    pending = [(steps, 0, 1)]
    while pending:
        stretch = pending.pop()
        length = stretch[0]
        slot = stretch[1]
        free = stretch[2]
        if length == 1 or free == slots:
            acts.extend(again_from(slot, length))
            continue
        m = parted_at(length, slots - free + 1, columns)
        acts.extend([(TAKE, slot)] + [(STEP,)] * m + [(KEEP, free)])
        pending.append((m, slot, free))
        pending.append((length - m, free, free + 1))
    return acts


def again_from(slot, length):
    """The acts without a free slot: for each step all steps ahead of it once more."""
    acts = []
    for i in range(length - 1, -1, -1):
        acts.extend([(TAKE, slot)] + [(STEP,)] * i + [(TURN,)])
    return acts
