"""Promise 6: most and room."""

import unittest

from tests.model import least as told_least
from tests.support import COUNTING, MOST, ask, least, most, room, run, state

LIMIT = 1000000


def fewest(steps, limit):
    enough = [slots for slots in range(1, 21) if told_least(steps, slots) <= limit]
    return enough[0] if enough else 0


class Answered(unittest.TestCase):
    def test_most_by_hand(self):
        # With one slot T is 0, 1, 3, 6, 10 for 1 to 5 steps.
        told = ask(most(1, 0), most(1, 1), most(1, 2), most(1, 3), most(1, 9), most(1, 10))
        self.assertEqual(told, [[1], [2], [2], [3], [4], [5]])
        # With two slots it is 0, 1, 2, 4, 6.
        told = ask(most(2, 0), most(2, 1), most(2, 2), most(2, 3), most(2, 4), most(2, 5))
        self.assertEqual(told, [[1], [2], [3], [3], [4], [4]])

    def test_room_by_hand(self):
        # T(4, c) is 6, 4, 3 for 1 to 3 slots, and 3 for more.
        told = ask(room(4, 6), room(4, 5), room(4, 4), room(4, 3), room(4, 2), room(4, 7))
        self.assertEqual(told, [[1], [2], [2], [3], [0], [1]])

    def test_none_is_enough(self):
        self.assertEqual(ask(room(2, 0), room(60, 0), room(60, 58), room(20, 18)), [[0]] * 4)

    def test_each_end_of_the_ranges(self):
        self.assertEqual(ask(most(1, 0), most(20, 0), most(1, LIMIT), most(20, LIMIT)), [[1], [1], [60], [60]])
        self.assertEqual(ask(room(1, 0), room(60, 0), room(1, LIMIT), room(60, LIMIT)), [[1], [0], [1], [1]])

    def test_60_steps_and_one_less(self):
        # T(60, 1) is 1770, T(59, 1) is 1711.
        told = ask(most(1, 1770), most(1, 1769), most(1, 1771), room(60, 1770), room(60, 1769))
        self.assertEqual(told, [[60], [59], [60], [1], [2]])

    def test_one_slot_less_than_steps(self):
        # n - 1 steps forward are the fewest, and take n - 1 slots.
        for steps in range(2, 22):
            self.assertEqual(ask(room(steps, steps - 1), room(steps, steps - 2)), [[steps - 1], [0]])
        self.assertEqual(ask(room(22, 21), room(22, 22)), [[0], [20]])

    def test_just_at_a_least_number_and_one_below(self):
        for slots in range(1, 21):
            calls = []
            expected = []
            for steps in range(2, 61):
                limit = told_least(steps, slots)
                calls += [least(steps, slots), most(slots, limit), most(slots, limit - 1), room(steps, limit),
                          room(steps, limit - 1)]
                expected += [[limit], [steps], [steps - 1], [fewest(steps, limit)], [fewest(steps, limit - 1)]]
            self.assertEqual(ask(*calls), expected)


class Refused(unittest.TestCase):
    def test_most(self):
        for slots, limit in ((0, 5), (21, 5), (-1, 5), (MOST, 5), (-MOST, 5), (1, -1), (1, LIMIT + 1), (20, MOST),
                             (20, -MOST), (0, -1), (60, 5)):
            self.assertEqual(ask(most(slots, limit)), [[-1]], (slots, limit))

    def test_room(self):
        for steps, limit in ((0, 5), (61, 5), (-1, 5), (MOST, 5), (-MOST, 5), (1, -1), (1, LIMIT + 1), (60, MOST),
                             (60, -MOST), (0, -1)):
            self.assertEqual(ask(room(steps, limit)), [[-1]], (steps, limit))

    def test_they_ask_for_no_chain_and_change_none(self):
        told = ask(COUNTING, run(3, [5, 1]), most(2, 4), room(4, 4), most(0, 0), room(0, 0), state(3))
        self.assertEqual(told[2:], [[4], [2], [-1], [-1], [1, 8, 1]])


if __name__ == "__main__":
    unittest.main()
