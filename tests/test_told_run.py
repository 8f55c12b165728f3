"""Promise 2: run."""

import unittest

from tests.support import COUNTING, GROWING, MOST, SINKING, ask, backward, chain, last, run, state

# Line 5 is 2 ** 198 and weighs 200.
AT_200 = [[0, 0], [1, 2 ** 59, 1], [4, 1, 1], [1, 2 ** 40, 1], [4, 3, 3], [4, 2, 4]]


class Answered(unittest.TestCase):
    def test_without_a_fault(self):
        self.assertEqual(ask(GROWING, run(3, [4, 1, 1, 2])), [[4], [0]])

    def test_each_end_of_the_steps(self):
        self.assertEqual(last(COUNTING, run(1, [0, 1])), [0])
        self.assertEqual(last(COUNTING, run(40, [0, 1])), [0])
        for steps in (0, 41, -1, MOST, -MOST):
            self.assertEqual(last(COUNTING, run(steps, [0, 1])), [-1])

    def test_numbers_as_large_as_they_may_be(self):
        self.assertEqual(last(COUNTING, run(40, [-MOST, MOST]), state(0)), [1, -1, 1])
        self.assertEqual(last(COUNTING, run(40, [MOST, MOST - 1]), state(0)), [1, MOST, MOST - 1])


class Faults(unittest.TestCase):
    def test_a_divisor_of_0_in_a_later_step(self):
        self.assertEqual(last(SINKING, run(5, [2, 1])), [1, 2, 2, 1])

    def test_the_fault_is_behind_the_last_step(self):
        self.assertEqual(last(SINKING, run(2, [2, 1])), [0])
        self.assertEqual(last(SINKING, run(3, [2, 1])), [1, 2, 2, 1])

    def test_0_over_0(self):
        self.assertEqual(last(chain(1, [[0, 0], [5, 0, 0]], [0]), run(1, [0, 7])), [1, 0, 1, 1])

    def test_0_may_be_divided(self):
        self.assertEqual(last(chain(1, [[1, 0, 3], [1, -5, 2], [5, 0, 1]], [2]), run(1, [1, 1]), state(1)), [1, 0, 1])

    def test_a_value_that_weighs_too_much_in_a_later_step(self):
        squares = chain(1, [[0, 0], [4, 0, 0]], [1])
        self.assertEqual(last(squares, run(7, [2, 1])), [0])
        self.assertEqual(last(squares, run(40, [2, 1])), [1, 7, 1, 2])

    def test_weights_of_200_and_201(self):
        self.assertEqual(last(chain(1, AT_200, [5]), run(1, [0, 1]), state(1)), [1, 2 ** 198, 1])
        self.assertEqual(last(chain(1, AT_200 + [[2, 5, 5]], [0]), run(1, [0, 1])), [1, 0, 6, 2])

    def test_the_sign_weighs_nothing(self):
        self.assertEqual(last(chain(1, AT_200 + [[6, 5]], [6]), run(1, [0, 1]), state(1)), [1, -2 ** 198, 1])

    def test_denominators_weigh_too(self):
        over = AT_200 + [[1, 1, 1], [5, 6, 5]]
        self.assertEqual(last(chain(1, over, [7]), run(1, [0, 1]), state(1)), [1, 1, 2 ** 198])
        self.assertEqual(last(chain(1, over + [[1, 1, 2], [4, 7, 8]], [0]), run(1, [0, 1])), [1, 0, 9, 2])

    def test_weight_is_that_of_the_lowest_terms(self):
        lines = [[1, 2 ** 59, 3 ** 37], [1, 3 ** 37, 2 ** 59], [4, 0, 1]]
        for line in range(2, 12):
            lines.append([4, line, line])
        self.assertEqual(last(chain(1, lines, [12]), run(40, [0, 1]), state(40)), [1, 1, 1])

    def test_a_line_that_is_no_out_has_a_fault_all_the_same(self):
        self.assertEqual(last(chain(1, [[0, 0], [1, 0, 1], [5, 0, 1]], [0]), run(2, [1, 1])), [1, 0, 2, 1])

    def test_the_first_fault_of_a_step_alone(self):
        lines = AT_200 + [[2, 5, 5], [1, 0, 1], [5, 0, 7]]
        self.assertEqual(last(chain(1, lines, [0]), run(1, [0, 1])), [1, 0, 6, 2])
        lines = [[1, 0, 1], [5, 0, 0]] + [[1, 2 ** 59, 1], [4, 2, 2], [4, 3, 3]]
        self.assertEqual(last(chain(1, lines, [0]), run(1, [0, 1])), [1, 0, 1, 1])

    def test_a_fault_that_hangs_on_the_steps_number(self):
        lines = [[0, 0], [0, 1], [1, 6, 2], [3, 1, 2], [5, 0, 3]]
        self.assertEqual(last(chain(1, lines, [0]), run(3, [1, 1])), [0])
        self.assertEqual(last(chain(1, lines, [0]), run(40, [1, 1])), [1, 3, 4, 1])

    def test_input_lines_of_light_states_have_none(self):
        self.assertEqual(last(chain(1, [[0, 0]], [0]), run(40, [MOST, MOST - 1])), [0])


class Refused(unittest.TestCase):
    def test_the_start(self):
        for numbers in ([], [1], [1, 1, 1], [1, 1], [1, 1, 1, 1, 1, 1], [1, 0, 1, 1], [1, 1, 1, -1], [0] * 100,
                        [1] * 100):
            self.assertEqual(last(GROWING, run(1, numbers)), [-2], numbers)

    def test_no_chain(self):
        self.assertEqual(ask(run(1, [])), [[-4]])
        self.assertEqual(ask(run(40, [1, 1])), [[-4]])

    def test_order(self):
        self.assertEqual(ask(run(0, [1])), [[-1]])
        self.assertEqual(ask(run(1, [1])), [[-4]])
        self.assertEqual(last(COUNTING, run(41, [1])), [-1])

    def test_all_is_as_it_was(self):
        for call, number in ((run(0, [1, 1]), -1), (run(1, [1]), -2), (run(9, [1, 0]), -2)):
            self.assertEqual(ask(COUNTING, run(3, [5, 1]), call, state(3), state(4))[2:], [[number], [1, 8, 1], [-1]])
            self.assertEqual(ask(COUNTING, call, state(0), state(1))[2:], [[-4], [-1]])
            self.assertEqual(ask(SINKING, run(5, [2, 1]), call, state(5))[2:], [[number], [-5]])


class Kept(unittest.TestCase):
    def test_a_run_told_again(self):
        told = ask(COUNTING, run(3, [5, 1]), run(2, [7, 2]), state(0), state(2), state(3))
        self.assertEqual(told[3:], [[1, 7, 2], [1, 9, 2], [-1]])

    def test_a_run_with_a_fault_takes_the_place_of_the_one_before(self):
        told = ask(SINKING, run(2, [2, 1]), run(5, [2, 1]), state(0), state(5), state(6), backward([1, 1]))
        self.assertEqual(told[3:], [[-5], [-5], [-1], [-5]])

    def test_a_run_behind_one_with_a_fault(self):
        told = ask(SINKING, run(5, [2, 1]), run(2, [2, 1]), state(2), backward([1, 1]))
        self.assertEqual(told[2:], [[0], [1, 0, 1], [1, 1, 1]])


if __name__ == "__main__":
    unittest.main()
