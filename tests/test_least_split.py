"""Promise 5: least and split."""

import unittest

from tests.support import COUNTING, MOST, ask, flat, last, least, run, split, state


def told_least(steps, slots, known):
    """T(n, c), word by word as the document tells it."""
    if steps < 2:
        return 0
    if slots == 1:
        return steps * (steps - 1) // 2
    if (steps, slots) not in known:
        known[steps, slots] = min(told_costs(steps, slots, known))
    return known[steps, slots]


def told_costs(steps, slots, known):
    return [m + told_least(steps - m, slots - 1, known) + told_least(m, slots, known) for m in range(1, steps)]


class Answered(unittest.TestCase):
    def test_by_hand(self):
        # T(3, 2): m = 1: 1 + T(2, 1) + T(1, 2) = 2; m = 2: 2 + T(1, 1) + T(2, 2) = 3.
        told = ask(least(1, 1), least(2, 1), least(3, 1), least(2, 2), least(3, 2), least(4, 2), least(4, 3))
        self.assertEqual(told, [[0], [1], [3], [1], [2], [4], [3]])
        # T(4, 2) is 4 at m = 1 (1 + 3 + 0) and at m = 2 (2 + 1 + 1).
        told = ask(split(2, 2), split(3, 2), split(4, 2), split(4, 3))
        self.assertEqual(told, [[1], [1], [1], [1]])

    def test_the_least_of_several(self):
        # T(5, 2) is 6 at m = 2 (2 + 3 + 1) and at m = 3 (3 + 1 + 2).
        self.assertEqual(ask(least(5, 2), split(5, 2)), [[6], [2]])

    def test_one_slot(self):
        self.assertEqual(ask(least(60, 1), least(40, 1)), [[1770], [780]])

    def test_as_many_slots_as_steps(self):
        for steps in range(1, 21):
            self.assertEqual(ask(least(steps, steps), least(steps, 20)), [[steps - 1], [steps - 1]])

    def test_all_in_range(self):
        known = {}
        for slots in range(1, 21):
            calls = [least(steps, slots) for steps in range(1, 61)]
            self.assertEqual(ask(*calls), [[told_least(steps, slots, known)] for steps in range(1, 61)])
        for slots in range(2, 21):
            expected = []
            for steps in range(2, 61):
                costs = told_costs(steps, slots, known)
                expected.append([1 + costs.index(min(costs))])
            self.assertEqual(ask(*[split(steps, slots) for steps in range(2, 61)]), expected)


class Refused(unittest.TestCase):
    def test_least(self):
        for steps, slots in ((0, 1), (61, 1), (1, 0), (1, 21), (-1, 5), (5, -1), (MOST, 1), (1, MOST), (-MOST, -MOST)):
            self.assertEqual(ask(least(steps, slots)), [[-1]], (steps, slots))
        for steps, slots in ((1, 1), (60, 1), (1, 20), (60, 20)):
            self.assertNotEqual(ask(least(steps, slots)), [[-1]], (steps, slots))

    def test_split(self):
        for steps, slots in ((1, 2), (61, 2), (2, 1), (2, 21), (0, 5), (5, 0), (-1, 5), (5, -1), (MOST, 2), (2, -MOST)):
            self.assertEqual(ask(split(steps, slots)), [[-1]], (steps, slots))
        for steps, slots in ((2, 2), (60, 2), (2, 20), (60, 20)):
            self.assertNotEqual(ask(split(steps, slots)), [[-1]], (steps, slots))

    def test_they_ask_for_no_chain_and_change_none(self):
        told = ask(COUNTING, run(3, [5, 1]), least(3, 2), split(3, 2), least(0, 0), split(1, 1), state(3))
        self.assertEqual(told[2:], [[2], [1], [-1], [-1], [1, 8, 1]])

    def test_400_calls(self):
        calls = [least(60, 20), split(60, 20)] * 200
        self.assertEqual(len(ask(*calls)), 400)
        self.assertEqual(last(*calls), last(split(60, 20)))
        self.assertEqual(len(flat(calls)), 1200)


if __name__ == "__main__":
    unittest.main()
