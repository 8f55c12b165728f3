"""Promise 4: backward and forward."""

import unittest

from tests.support import COUNTING, GROWING, MOST, SINKING, ask, backward, chain, forward, last, run, state

BOTH = (backward, forward)
# x -> (x + 1) / x, whose slope is -1 / x ** 2.
OVER = chain(1, [[0, 0], [1, 1, 1], [2, 0, 1], [5, 2, 0]], [3])
# x -> x * 2 ** 99, from 0 always 0.
STEEP = chain(1, [[0, 0], [1, 2 ** 50, 1], [1, 2 ** 49, 1], [4, 1, 2], [4, 0, 3]], [4])
# The same the other way round: x -> x / 2 ** 99.
FLAT = chain(1, [[0, 0], [1, 2 ** 50, 1], [1, 2 ** 49, 1], [4, 1, 2], [5, 0, 3]], [4])


class Answered(unittest.TestCase):
    def test_growing(self):
        told = ask(GROWING, run(3, [4, 1, 1, 2]), backward([1, 1, 0, 1]), backward([0, 1, 1, 1]),
                   forward([1, 1, 0, 1]), forward([0, 1, 1, 1]))
        self.assertEqual(told[2:], [[2, 27, 8, 27, 1], [2, 0, 1, 1, 1], [2, 27, 8, 0, 1], [2, 27, 1, 1, 1]])

    def test_weights_and_directions_are_added_up(self):
        told = ask(GROWING, run(3, [4, 1, 1, 2]), backward([2, 3, -5, 1]), forward([2, 3, -5, 1]))
        self.assertEqual(told[2:], [[2, 9, 4, 13, 1], [2, -531, 4, -5, 1]])

    def test_quotient(self):
        for call in BOTH:
            self.assertEqual(last(OVER, run(1, [2, 1]), call([1, 1])), [1, -1, 4])
            self.assertEqual(last(OVER, run(2, [2, 1]), call([1, 1])), [1, 1, 9])

    def test_product_of_a_line_with_itself(self):
        cube = chain(1, [[0, 0], [4, 0, 0], [4, 1, 0]], [2])
        for call in BOTH:
            self.assertEqual(last(cube, run(2, [1, 2]), call([1, 1])), [1, 9, 256])

    def test_difference_and_opposite(self):
        pair = chain(2, [[0, 0], [0, 1], [3, 0, 1], [6, 0]], [2, 3])
        told = ask(pair, run(1, [7, 1, 7, 2]), forward([1, 1, 0, 1]), forward([0, 1, 1, 1]), backward([3, 1, 5, 1]))
        self.assertEqual(told[2:], [[2, 1, 1, -1, 1], [2, -1, 1, 0, 1], [2, -2, 1, -3, 1]])

    def test_a_line_with_itself(self):
        for kind, slope in ((2, [2, 1]), (3, [0, 1]), (4, [6, 1]), (5, [0, 1])):
            for call in BOTH:
                told = last(chain(1, [[0, 0], [kind, 0, 0]], [1]), run(1, [3, 1]), call([1, 1]))
                self.assertEqual(told, [1] + slope)

    def test_the_steps_number_and_constants_have_no_change(self):
        lines = [[0, 0], [0, 1], [1, 5, 3], [2, 0, 1], [4, 3, 2]]
        for call in BOTH:
            self.assertEqual(last(chain(1, lines, [4]), run(2, [1, 7]), call([1, 1])), [1, 25, 9])
            self.assertEqual(last(chain(1, lines, [1]), run(2, [1, 7]), call([1, 1])), [1, 0, 1])
            self.assertEqual(last(chain(1, lines, [2]), run(2, [1, 7]), call([1, 1])), [1, 0, 1])

    def test_each_step_at_its_own_state_and_number(self):
        # x -> x * x + i: from 2 the states are 2, 4, 17, 291.
        lines = [[0, 0], [0, 1], [4, 0, 0], [2, 2, 1]]
        for call in BOTH:
            told = ask(chain(1, lines, [3]), run(3, [2, 1]), state(3), call([1, 1]))
            self.assertEqual(told[2:], [[1, 291, 1], [1, 4 * 8 * 34, 1]])
        # x -> x * i: the slopes are 0, 1, 2.
        for call in BOTH:
            self.assertEqual(last(chain(1, [[0, 0], [0, 1], [4, 0, 1]], [2]), run(3, [2, 1]), call([1, 1])), [1, 0, 1])

    def test_the_order_of_the_steps(self):
        # x, y -> x + i * y, y + x: turning and pushing don't commute from step to step.
        lines = [[0, 0], [0, 1], [0, 2], [4, 2, 1], [2, 0, 3], [2, 0, 1]]
        told = ask(chain(2, lines, [4, 5]), run(3, [0, 1, 0, 1]), forward([1, 1, 0, 1]), backward([1, 1, 0, 1]),
                   forward([0, 1, 1, 1]), backward([0, 1, 1, 1]))
        # 1, 0 -> 1, 1 -> 2, 2 -> 6, 4; and 0, 1 -> 0, 1 -> 1, 1 -> 3, 2.
        self.assertEqual(told[2:], [[2, 6, 1, 4, 1], [2, 6, 1, 3, 1], [2, 3, 1, 2, 1], [2, 4, 1, 2, 1]])

    def test_the_same_line_told_more_than_once(self):
        pair = chain(2, [[0, 0], [0, 1], [4, 0, 1]], [2, 2])
        told = ask(pair, run(1, [3, 1, 5, 1]), forward([1, 1, 0, 1]), backward([1, 1, 1, 2]))
        self.assertEqual(told[2:], [[2, 5, 1, 5, 1], [2, 15, 2, 9, 2]])

    def test_four_parts(self):
        turned = chain(4, [[0, 0], [0, 1], [0, 2], [0, 3]], [1, 2, 3, 0])
        numbers = [1, 2, 3, 1, 5, 1, 7, 3]
        told = ask(turned, run(1, [0, 1] * 4), forward(numbers), backward(numbers))
        self.assertEqual(told[2:], [[4, 3, 1, 5, 1, 7, 3, 1, 2], [4, 7, 3, 1, 2, 3, 1, 5, 1]])

    def test_what_is_not_in_lowest_terms(self):
        for call in BOTH:
            self.assertEqual(last(COUNTING, run(2, [6, 4]), call([-4, 6])), [1, -2, 3])
            self.assertEqual(last(COUNTING, run(2, [6, 4]), call([0, MOST])), [1, 0, 1])
            self.assertEqual(last(COUNTING, run(40, [6, 4]), call([-MOST, MOST])), [1, -1, 1])

    def test_changes_may_weigh_more_than_200(self):
        for call in BOTH:
            self.assertEqual(last(STEEP, run(3, [0, 1]), call([1, 1])), [1, 2 ** 297, 1])

    def test_a_call_changes_nothing(self):
        calls = [backward([1, 1, 2, 1]), forward([1, 1, 2, 1]), state(3)]
        told = ask(GROWING, run(3, [4, 1, 1, 2]), *(calls + calls))
        self.assertEqual(told[2:5], told[5:8])

    def test_a_run_told_again(self):
        for call in BOTH:
            told = ask(OVER, run(1, [2, 1]), call([1, 1]), run(1, [3, 1]), call([1, 1]), run(2, [2, 1]), call([1, 1]))
            self.assertEqual([told[2], told[4], told[6]], [[1, -1, 4], [1, -1, 9], [1, 1, 9]])


class Weights(unittest.TestCase):
    def test_4000_and_above(self):
        for call in BOTH:
            self.assertEqual(last(STEEP, run(40, [0, 1]), call([2 ** 38, 1])), [1, 2 ** 3998, 1])
            self.assertEqual(last(STEEP, run(40, [0, 1]), call([-2 ** 38, 1])), [1, -2 ** 3998, 1])
            self.assertEqual(last(STEEP, run(40, [0, 1]), call([2 ** 39, 1])), [-6])
            self.assertEqual(last(STEEP, run(40, [0, 1]), call([-2 ** 39, 1])), [-6])

    def test_4000_and_above_of_denominators(self):
        for call in BOTH:
            self.assertEqual(last(FLAT, run(40, [0, 1]), call([1, 2 ** 38])), [1, 1, 2 ** 3998])
            self.assertEqual(last(FLAT, run(40, [0, 1]), call([1, 2 ** 39])), [-6])

    def test_numerator_and_denominator_are_added(self):
        for call in BOTH:
            self.assertEqual(last(STEEP, run(40, [0, 1]), call([2 ** 37, 3])), [1, 2 ** 3997, 3])
            self.assertEqual(last(STEEP, run(40, [0, 1]), call([2 ** 38, 3])), [-6])

    def test_one_part_that_is_too_heavy(self):
        # Only part 1 is steep.
        lines = [[0, 0], [0, 1], [1, 2 ** 50, 1], [4, 2, 2], [4, 1, 3]]
        for call in BOTH:
            told = ask(chain(2, lines, [0, 4]), run(40, [0, 1, 0, 1]), call([5, 1, 2 ** 40, 1]), call([5, 1, 0, 1]))
            self.assertEqual(told[2:], [[-6], [2, 5, 1, 0, 1]])

    def test_a_heavy_fraction_that_is_not_told(self):
        # The slope of step i is 2 ** 118 * i, and 0 in the first step: weights are turned through it last.
        lines = [[0, 0], [0, 1], [1, 2 ** 59, 1], [4, 2, 2], [4, 3, 1], [4, 0, 4]]
        for call in BOTH:
            self.assertEqual(last(chain(1, lines, [5]), run(40, [0, 1]), call([1, 1])), [1, 0, 1])
        # The slope is 0 in the last step: a direction is pushed through it last.
        lines = [[0, 0], [0, 1], [1, 2 ** 59, 1], [4, 2, 2], [1, 39, 1], [3, 4, 1], [4, 3, 5], [4, 0, 6]]
        for call in BOTH:
            self.assertEqual(last(chain(1, lines, [7]), run(40, [0, 1]), call([1, 1])), [1, 0, 1])

    def test_heavy_halfway_and_light_in_the_end(self):
        # The slope of step i is r ** 6 with r = (p + i) / (p + 39 - i): over 40 steps they come to 1.
        p = 2 ** 48
        lines = [[0, 0], [0, 1], [1, p, 1], [2, 2, 1], [1, p + 39, 1], [3, 4, 1], [5, 3, 5], [4, 6, 6],
                 [4, 0, 7], [4, 8, 7], [4, 9, 7]]
        for call in BOTH:
            told = ask(chain(1, lines, [10]), run(20, [0, 1]), call([1, 1]), run(40, [0, 1]), call([2, 3]))
            self.assertEqual(told[1:], [[0], [-6], [0], [1, 2, 3]])

    def test_parts_that_undo_each_other(self):
        # x, y -> y / k, x * k: two steps bring back any direction.
        k = 11 ** 15
        lines = [[0, 0], [0, 1], [1, k, 1], [5, 1, 2], [4, 0, 2]]
        for call in BOTH:
            told = ask(chain(2, lines, [3, 4]), run(40, [0, 1, 0, 1]), call([2, 3, 7, 5]), run(39, [0, 1, 0, 1]),
                       forward([2, 3, 7, 5]), backward([2, 3, 7, 5]))
            self.assertEqual(told[2:], [[2, 2, 3, 7, 5], [0], [2, 7, 5 * k, 2 * k, 3], [2, 7 * k, 5, 2, 3 * k]])

    def test_huge_numbers_are_refused(self):
        # 26 lines that each bring in a fraction of some 120 bits, 40 times: well over 100000 bits.
        lines = [[0, 0], [1, 10 ** 18 - 11, 10 ** 18 - 33]] + [[4, 0, 1]]
        while len(lines) < 29:
            lines.append([4, len(lines) - 1, 1])
        for call in BOTH:
            self.assertEqual(last(chain(1, lines, [28]), run(40, [0, 1]), call([1, 1])), [-6])

    def test_all_is_as_it_was_behind_it(self):
        for call in BOTH:
            told = ask(STEEP, run(40, [0, 1]), call([2 ** 39, 1]), call([1, 1]), state(40))
            self.assertEqual(told[2:], [[-6], [1, 2 ** 3960, 1], [1, 0, 1]])


class Refused(unittest.TestCase):
    def test_the_form(self):
        for numbers in ([], [1], [1, 1], [1, 1, 1], [1] * 6, [1, 0, 1, 1], [1, 1, 1, 0], [1, 1, 1, -MOST], [1] * 100):
            for call in BOTH:
                self.assertEqual(last(GROWING, run(3, [4, 1, 1, 2]), call(numbers)), [-2], numbers)

    def test_no_chain(self):
        for call in BOTH:
            self.assertEqual(ask(call([])), [[-4]])
            self.assertEqual(ask(call([1])), [[-2]])
            self.assertEqual(ask(call([1, 1])), [[-2]])

    def test_no_run(self):
        for call in BOTH:
            self.assertEqual(last(COUNTING, call([1, 1])), [-4])
            self.assertEqual(last(COUNTING, call([])), [-2])
            self.assertEqual(last(COUNTING, call([1, 0])), [-2])

    def test_a_run_with_a_fault(self):
        for call in BOTH:
            self.assertEqual(last(SINKING, run(5, [2, 1]), call([1, 1])), [-5])
            self.assertEqual(last(SINKING, run(5, [2, 1]), call([1, 0])), [-2])

    def test_a_fault_ahead_of_a_heavy_fraction(self):
        lines = [[0, 0], [0, 1], [1, 39, 1], [3, 2, 1], [5, 2, 3], [1, 2 ** 59, 1], [4, 5, 5], [4, 6, 0]]
        for call in BOTH:
            told = ask(chain(1, lines, [7]), run(39, [0, 1]), call([1, 1]), run(40, [0, 1]), call([1, 1]))
            self.assertEqual(told[1:], [[0], [-6], [1, 39, 4, 1], [-5]])

    def test_all_is_as_it_was(self):
        for call in BOTH:
            told = ask(OVER, run(1, [2, 1]), call([1, 0]), call([1, 1]), state(1))
            self.assertEqual(told[2:], [[-2], [1, -1, 4], [1, 3, 2]])


if __name__ == "__main__":
    unittest.main()
