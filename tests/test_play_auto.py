"""Promises 9 and 10: play and auto."""

import unittest

from tests.support import (COUNTING, GROWING, MOST, SINKING, STEP, TURN, ask, auto, backward, chain, keep, last, play,
                           run, state, take, told_acts)

# x -> x * x + i: from 2 the states are 2, 4, 17, 291.
SQUARES = chain(1, [[0, 0], [0, 1], [4, 0, 0], [2, 2, 1]], [3])
# x -> (x + 1) / x, whose slope is -1 / x ** 2.
OVER = chain(1, [[0, 0], [1, 1, 1], [2, 0, 1], [5, 2, 0]], [3])
# x, y -> x + i * y, y + x.
MIXING = chain(2, [[0, 0], [0, 1], [0, 2], [4, 2, 1], [2, 0, 3], [2, 0, 1]], [4, 5])
# x, y, z -> y, z / 2, x - y * i.
TURNING = chain(3, [[0, 0], [0, 1], [0, 2], [0, 3], [1, 1, 2], [4, 2, 4], [4, 1, 3], [3, 0, 6]], [1, 5, 7])
# x -> x * 2 ** 99, from 0 always 0; and the other way round.
STEEP = chain(1, [[0, 0], [1, 2 ** 50, 1], [1, 2 ** 49, 1], [4, 1, 2], [4, 0, 3]], [4])
FLAT = chain(1, [[0, 0], [1, 2 ** 50, 1], [1, 2 ** 49, 1], [4, 1, 2], [5, 0, 3]], [4])
ONE_STEP = [take(0), TURN]


def told_play(steps):
    """A play with the told schedule, called like auto."""
    def call(slots, numbers):
        return play(slots, told_acts(steps, slots), numbers)
    return call


def both(steps):
    return (told_play(steps), auto)


class Answered(unittest.TestCase):
    def test_by_hand(self):
        for slots in (1, 2, 3, 10):
            for call in both(3):
                # The slopes are 2 * 2, 2 * 4 and 2 * 17.
                self.assertEqual(last(SQUARES, run(3, [2, 1]), call(slots, [1, 1])), [1, 4 * 8 * 34, 1])
                told = ask(GROWING, run(3, [4, 1, 1, 2]), call(slots, [1, 1, 0, 1]), call(slots, [0, 1, 1, 1]),
                           call(slots, [2, 3, -5, 1]))
                self.assertEqual(told[2:], [[2, 27, 8, 27, 1], [2, 0, 1, 1, 1], [2, 9, 4, 13, 1]])

    def test_the_same_as_backward(self):
        chains = ((GROWING, [4, 1, 1, 2], [1, 1, -2, 3], 40), (COUNTING, [1, 2], [-4, 6], 40), (SQUARES, [1, 2], [3, 1], 6),
                  (OVER, [2, 1], [1, 1], 40), (MIXING, [1, 1, -1, 3], [5, 1, 1, 7], 40),
                  (TURNING, [1, 1, 2, 1, 3, 5], [1, 1, 0, 1, -1, 4], 12))
        for told, start, weights, most in chains:
            for steps in sorted({1, 2, 3, 5, most}):
                expected = last(told, run(steps, start), backward(weights))
                self.assertGreater(expected[0], 0)
                for slots in range(1, 11):
                    calls = [call(slots, weights) for call in both(steps)]
                    self.assertEqual(ask(told, run(steps, start), *calls)[1:], [[0], expected, expected])

    def test_each_end_of_the_ranges(self):
        for slots in (1, 10):
            for steps in (1, 40):
                for call in both(steps):
                    self.assertEqual(last(COUNTING, run(steps, [1, 3]), call(slots, [5, 10])), [1, 1, 2])

    def test_schedules_that_are_not_the_told_one(self):
        schedules = [
            # A state kept over another.
            [take(0), STEP, keep(1), STEP, keep(1), take(1), TURN, take(0), STEP, TURN, take(0), TURN],
            # On to the last state, and back.
            [take(0), STEP, STEP, STEP, keep(1), take(0), STEP, STEP, TURN, take(0), STEP, TURN, take(0), TURN],
            # The start brought elsewhere.
            [take(0), keep(1), STEP, keep(0), STEP, TURN, take(0), TURN, take(1), TURN],
            # Acts behind the last turn.
            told_acts(3, 2) + [STEP, keep(1), STEP, STEP, keep(0), take(1)],
        ]
        for acts in schedules:
            told = ask(SQUARES, run(3, [2, 1]), play(2, acts, [1, 1]), play(10, acts, [-1, 2]))
            self.assertEqual(told[2:], [[1, 1088, 1], [1, -544, 1]], acts)

    def test_2000_acts(self):
        acts = ONE_STEP + [take(0)] * 1998
        told = ask(COUNTING, run(1, [0, 1]), play(1, acts, [7, 2]), play(1, acts + [take(0)], [7, 2]))
        self.assertEqual(told[2:], [[1, 7, 2], [-7]])

    def test_what_is_not_in_lowest_terms(self):
        for call in both(2):
            self.assertEqual(last(COUNTING, run(2, [6, 4]), call(2, [-4, 6])), [1, -2, 3])
            self.assertEqual(last(COUNTING, run(2, [6, 4]), call(2, [0, MOST])), [1, 0, 1])
            self.assertEqual(last(COUNTING, run(2, [6, 4]), call(2, [-MOST, MOST])), [1, -1, 1])

    def test_a_call_changes_nothing(self):
        calls = [play(2, told_acts(3, 2), [1, 1, 2, 1]), auto(3, [1, 1, 2, 1]), backward([1, 1, 2, 1]), state(3)]
        told = ask(GROWING, run(3, [4, 1, 1, 2]), *(calls + calls))
        self.assertEqual(told[2:6], told[6:10])
        self.assertEqual(told[2], told[4])

    def test_a_run_told_again(self):
        told = ask(OVER, run(1, [2, 1]), auto(2, [1, 1]), run(2, [2, 1]), auto(2, [1, 1]), play(1, ONE_STEP, [1, 1]),
                   play(1, told_acts(2, 1), [1, 1]), run(1, [3, 1]), play(1, ONE_STEP, [1, 1]), auto(1, [1, 1]))
        self.assertEqual(told[2:], [[1, -1, 4], [0], [1, 1, 9], [-8], [1, 1, 9], [0], [1, -1, 9], [1, -1, 9]])


class Weights(unittest.TestCase):
    def test_4000_and_above(self):
        for call in both(40):
            for slots in (1, 4):
                told = ask(STEEP, run(40, [0, 1]), call(slots, [2 ** 38, 1]), call(slots, [-2 ** 38, 1]),
                           call(slots, [2 ** 39, 1]), call(slots, [2 ** 37, 3]), call(slots, [2 ** 38, 3]))
                self.assertEqual(told[2:], [[1, 2 ** 3998, 1], [1, -2 ** 3998, 1], [-6], [1, 2 ** 3997, 3], [-6]])
                told = ask(FLAT, run(40, [0, 1]), call(slots, [1, 2 ** 38]), call(slots, [1, 2 ** 39]))
                self.assertEqual(told[2:], [[1, 1, 2 ** 3998], [-6]])

    def test_a_heavy_fraction_that_is_not_told(self):
        # The slope of step i is 2 ** 118 * i, and 0 in the first step.
        lines = [[0, 0], [0, 1], [1, 2 ** 59, 1], [4, 2, 2], [4, 3, 1], [4, 0, 4]]
        for call in both(40):
            self.assertEqual(last(chain(1, lines, [5]), run(40, [0, 1]), call(3, [1, 1])), [1, 0, 1])

    def test_all_is_as_it_was_behind_it(self):
        for call in both(40):
            told = ask(STEEP, run(40, [0, 1]), call(3, [2 ** 39, 1]), call(3, [1, 1]), state(40))
            self.assertEqual(told[2:], [[-6], [1, 2 ** 3960, 1], [1, 0, 1]])


class NotPlayed(unittest.TestCase):
    def test_each_reason(self):
        schedules = [[take(2)], [take(0), keep(MOST)], [take(1)], [STEP], [TURN], [keep(0)],
                     [take(0), STEP, STEP, STEP], [take(0), TURN], [take(0), STEP, TURN], []]
        for acts in schedules:
            told = ask(SQUARES, run(2, [2, 1]), play(2, acts, [1, 1]), play(2, told_acts(2, 2), [1, 1]))
            self.assertEqual(told[2:], [[-8], [1, 32, 1]], acts)

    def test_an_act_behind_the_last_turn(self):
        for act in (TURN, take(1), keep(2)):
            self.assertEqual(last(COUNTING, run(1, [2, 1]), play(2, ONE_STEP + [act], [1, 1])), [-8])

    def test_a_schedule_for_other_slots(self):
        acts = told_acts(9, 3)
        told = ask(COUNTING, run(9, [0, 1]), play(2, acts, [1, 1]), play(3, acts, [1, 1]), play(10, acts, [1, 1]))
        self.assertEqual(told[2:], [[-8], [1, 1, 1], [1, 1, 1]])

    def test_a_schedule_for_other_steps(self):
        for steps in (8, 10):
            self.assertEqual(last(COUNTING, run(9, [0, 1]), play(3, told_acts(steps, 3), [1, 1])), [-8])


class Refused(unittest.TestCase):
    def test_out_of_range(self):
        for slots in (0, 11, -1, 20, MOST, -MOST):
            told = ask(COUNTING, run(1, [0, 1]), play(slots, ONE_STEP, [1, 1]), auto(slots, [1, 1]))
            self.assertEqual(told[2:], [[-1], [-1]])

    def test_the_form_of_the_acts(self):
        for numbers in ([4], [-1], [0], [1], [0, -1], [1, -1], [0, 0, 3, 0], [0, 0, 3, MOST], [2] * 4999 + [0]):
            told = ask(COUNTING, run(1, [0, 1]), play(1, numbers, [1, 1]), play(1, ONE_STEP, [1, 1]))
            self.assertEqual(told[2:], [[-2], [1, 1, 1]])

    def test_the_form_of_the_weights(self):
        for numbers in ([], [1], [1, 1], [1, 1, 1], [1] * 6, [1, 0, 1, 1], [1, 1, 1, 0], [1, 1, 1, -MOST], [1] * 100):
            told = ask(GROWING, run(1, [4, 1, 1, 2]), play(1, ONE_STEP, numbers), auto(1, numbers))
            self.assertEqual(told[2:], [[-2], [-2]], numbers)

    def test_too_many_acts(self):
        for acts in ([TURN] * 2001, [STEP] * 5000, [take(0)] * 2500):
            self.assertEqual(last(COUNTING, run(1, [0, 1]), play(1, acts, [1, 1])), [-7])

    def test_no_chain(self):
        told = ask(play(1, ONE_STEP, []), play(1, ONE_STEP, [1]), play(1, ONE_STEP, [1, 1]), auto(1, []), auto(1, [1]),
                   auto(1, [1, 1]))
        self.assertEqual(told, [[-4], [-2], [-2], [-4], [-2], [-2]])

    def test_no_run(self):
        told = ask(COUNTING, play(1, ONE_STEP, [1, 1]), auto(1, [1, 1]), run(1, [0, 1]), auto(1, [1, 1]), COUNTING,
                   play(1, ONE_STEP, [1, 1]), auto(1, [1, 1]))
        self.assertEqual(told[1:], [[-4], [-4], [0], [1, 1, 1], [3], [-4], [-4]])

    def test_a_run_with_a_fault(self):
        told = ask(SINKING, run(5, [2, 1]), play(2, told_acts(5, 2), [1, 1]), auto(2, [1, 1]), run(2, [2, 1]),
                   play(2, told_acts(2, 2), [1, 1]), auto(2, [1, 1]))
        self.assertEqual(told[1:], [[1, 2, 2, 1], [-5], [-5], [0], [1, 1, 1], [1, 1, 1]])

    def test_all_is_as_it_was(self):
        refused = [(play(0, ONE_STEP, [1, 1]), -1), (play(1, [4], [1, 1]), -2), (play(1, [TURN] * 2001, [1, 1]), -7),
                   (play(1, ONE_STEP, [1, 0]), -2), (play(1, [TURN], [1, 1]), -8), (auto(11, [1, 1]), -1),
                   (auto(1, [1]), -2)]
        for call, number in refused:
            told = ask(OVER, run(1, [2, 1]), call, play(1, ONE_STEP, [1, 1]), auto(1, [1, 1]), state(1))
            self.assertEqual(told[2:], [[number], [1, -1, 4], [1, -1, 4], [1, 3, 2]])


class Order(unittest.TestCase):
    """Where two refusals would fit, the one that is looked at first."""

    many = [TURN] * 2001

    def test_the_slots_ahead_of_all(self):
        told = ask(play(0, [4], []), play(11, self.many, []), play(0, ONE_STEP, [1]), play(0, ONE_STEP, []),
                   auto(0, [1]), auto(11, []))
        self.assertEqual(told, [[-1]] * 6)
        told = ask(SINKING, run(5, [2, 1]), play(0, ONE_STEP, [1, 1]), auto(0, [1, 1]))
        self.assertEqual(told[2:], [[-1], [-1]])
        self.assertEqual(last(COUNTING, run(1, [0, 1]), play(0, [TURN], [1, 1])), [-1])

    def test_the_form_of_the_acts_ahead_of_too_many(self):
        self.assertEqual(ask(play(1, self.many + [4], [])), [[-2]])
        self.assertEqual(ask(play(1, [0, -1] + self.many, [1])), [[-2]])

    def test_too_many_acts_ahead_of_the_weights(self):
        self.assertEqual(ask(play(1, self.many, [1])), [[-7]])
        self.assertEqual(last(COUNTING, run(1, [0, 1]), play(1, self.many, [1, 0])), [-7])

    def test_the_lists_ahead_of_no_chain_and_no_run(self):
        told = ask(play(1, [4], []), play(1, self.many, []), play(1, ONE_STEP, [1, 1]), auto(1, [1, 1]))
        self.assertEqual(told, [[-2], [-7], [-2], [-2]])
        told = ask(COUNTING, play(1, [4], [1, 1]), play(1, self.many, [1, 1]), play(1, ONE_STEP, []), auto(1, []))
        self.assertEqual(told[1:], [[-2], [-7], [-2], [-2]])

    def test_no_chain_and_no_run_ahead_of_the_schedule(self):
        self.assertEqual(ask(play(1, [TURN], [])), [[-4]])
        self.assertEqual(last(COUNTING, play(1, [TURN], [1, 1])), [-4])

    def test_the_lists_ahead_of_a_fault(self):
        told = ask(SINKING, run(5, [2, 1]), play(1, [4], [1, 1]), play(1, self.many, [1, 1]), play(1, [], [1, 0]),
                   auto(1, [1, 0]))
        self.assertEqual(told[2:], [[-2], [-7], [-2], [-2]])

    def test_a_fault_ahead_of_the_schedule(self):
        told = ask(SINKING, run(5, [2, 1]), play(1, [TURN], [1, 1]), play(1, [], [1, 1]))
        self.assertEqual(told[2:], [[-5], [-5]])

    def test_a_fault_ahead_of_a_heavy_fraction(self):
        lines = [[0, 0], [0, 1], [1, 39, 1], [3, 2, 1], [5, 2, 3], [1, 2 ** 59, 1], [4, 5, 5], [4, 6, 0]]
        told = ask(chain(1, lines, [7]), run(39, [0, 1]), auto(3, [1, 1]), run(40, [0, 1]), auto(3, [1, 1]),
                   play(3, told_acts(40, 3), [1, 1]))
        self.assertEqual(told[1:], [[0], [-6], [1, 39, 4, 1], [-5], [-5]])

    def test_the_schedule_ahead_of_a_heavy_fraction(self):
        told = ask(STEEP, run(40, [0, 1]), play(3, told_acts(40, 3) + [TURN], [2 ** 39, 1]),
                   play(3, told_acts(40, 3), [2 ** 39, 1]))
        self.assertEqual(told[2:], [[-8], [-6]])


if __name__ == "__main__":
    unittest.main()
