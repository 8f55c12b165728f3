"""Promise 7: schedule."""

import unittest

from tests.model import least as told_least
from tests.model import told_schedule
from tests.support import (COUNTING, MOST, STEP, TURN, act_numbers, ask, check, keep, last, run, schedule, state, take,
                           told_acts)

# How many slots there are doesn't matter where there is but one step.
ONE_STEP = [take(0), TURN]


class Answered(unittest.TestCase):
    def test_one_step(self):
        for slots in range(1, 11):
            self.assertEqual(ask(schedule(1, slots)), [[3, 0, 0, 3]])

    def test_one_slot(self):
        self.assertEqual(ask(schedule(2, 1)), [[7, 0, 0, 2, 3, 0, 0, 3]])
        self.assertEqual(ask(schedule(3, 1)), [[12, 0, 0, 2, 2, 3, 0, 0, 2, 3, 0, 0, 3]])

    def test_a_free_slot(self):
        self.assertEqual(ask(schedule(2, 2)), [[11, 0, 0, 2, 1, 1, 0, 1, 3, 0, 0, 3]])
        self.assertEqual(ask(schedule(3, 2)), [[15, 0, 0, 2, 1, 1, 0, 1, 2, 3, 0, 1, 3, 0, 0, 3]])

    def test_a_slot_that_is_free_again(self):
        # 5 steps in 2 slots are parted at 2; the first 2 then at 1, with slot 1 once more.
        acts = [take(0), STEP, STEP, keep(1), take(1), STEP, STEP, TURN, take(1), STEP, TURN, take(1), TURN,
                take(0), STEP, keep(1), take(1), TURN, take(0), TURN]
        self.assertEqual(told_acts(5, 2), act_numbers(acts))

    def test_the_free_slots_in_their_order(self):
        acts = [take(0), STEP, keep(1), take(1), STEP, keep(2), take(2), STEP, TURN, take(2), TURN, take(1), TURN,
                take(0), TURN]
        self.assertEqual(told_acts(4, 3), act_numbers(acts))

    def test_more_slots_than_steps(self):
        # Slot 3 and those behind are never kept in.
        acts = [take(0), STEP, keep(1), take(1), STEP, keep(2), take(2), TURN, take(1), TURN, take(0), TURN]
        for slots in range(3, 11):
            self.assertEqual(told_acts(3, slots), act_numbers(acts))

    def test_how_many_numbers(self):
        for steps, slots in ((1, 1), (50, 1), (50, 10), (1, 10), (17, 4)):
            told = last(schedule(steps, slots))
            self.assertEqual(told[0], len(told) - 1)
        # 1225 steps, and for each of 50 a take, which is two numbers, and a turn.
        self.assertEqual(last(schedule(50, 1))[0], 1225 + 150)

    def test_all_in_range(self):
        for steps in range(1, 51):
            told = ask(*[schedule(steps, slots) for slots in range(1, 11)])
            for slots in range(1, 11):
                numbers = act_numbers(told_schedule(steps, slots))
                self.assertEqual(told[slots - 1], [len(numbers)] + numbers, (steps, slots))

    def test_all_can_be_played(self):
        for steps in range(1, 51):
            for slots in range(1, 11):
                filled = min(steps, slots)
                self.assertEqual(last(check(steps, slots, told_acts(steps, slots))),
                                 [0, told_least(steps, slots), filled], (steps, slots))


class Refused(unittest.TestCase):
    def test_out_of_range(self):
        for steps, slots in ((0, 1), (51, 1), (1, 0), (1, 11), (-1, 5), (5, -1), (MOST, 1), (1, MOST), (-MOST, 1),
                             (1, -MOST), (0, 0), (60, 1), (1, 20)):
            self.assertEqual(ask(schedule(steps, slots)), [[-1]], (steps, slots))

    def test_it_asks_for_no_chain_and_changes_none(self):
        self.assertEqual(told_acts(1, 1), act_numbers(ONE_STEP))
        told = ask(COUNTING, run(3, [5, 1]), schedule(1, 1), schedule(0, 1), state(3))
        self.assertEqual(told[2:], [[3, 0, 0, 3], [-1], [1, 8, 1]])


if __name__ == "__main__":
    unittest.main()
