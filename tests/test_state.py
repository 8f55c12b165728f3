"""Promise 3: state."""

import unittest

from tests.support import COUNTING, GROWING, MOST, SINKING, ask, chain, last, run, state


class Answered(unittest.TestCase):
    def test_each_state(self):
        told = ask(GROWING, run(3, [4, 1, 1, 2]), state(0), state(1), state(2), state(3))
        self.assertEqual(told[2:], [[2, 4, 1, 1, 2], [2, 6, 1, 1, 2], [2, 9, 1, 1, 2], [2, 27, 2, 1, 2]])

    def test_the_steps_number_is_the_last_of_the_inputs(self):
        told = ask(COUNTING, run(40, [1, 2]), state(1), state(2), state(5), state(40))
        self.assertEqual(told[2:], [[1, 1, 2], [1, 3, 2], [1, 21, 2], [1, 1561, 2]])

    def test_every_kind_of_line(self):
        lines = [[0, 0], [1, -3, 4], [2, 0, 1], [3, 0, 1], [4, 0, 1], [5, 0, 1], [6, 0], [6, 1]]
        for outs, parts in (([0, 1, 2, 3], [1, 2, -3, 4, -1, 4, 5, 4]), ([4, 5, 6, 7], [-3, 8, -2, 3, -1, 2, 3, 4])):
            told = last(chain(4, lines, outs), run(1, [1, 2] + [0, 1] * 3), state(1))
            self.assertEqual(told, [4] + parts)

    def test_what_is_not_in_lowest_terms(self):
        told = ask(chain(1, [[0, 0], [1, -6, 4], [4, 0, 1]], [2]), run(1, [-10, 15]), state(0), state(1))
        self.assertEqual(told[2:], [[1, -2, 3], [1, 1, 1]])
        self.assertEqual(last(COUNTING, run(1, [0, MOST]), state(0)), [1, 0, 1])

    def test_the_same_line_told_more_than_once(self):
        told = last(chain(3, [[0, 0], [0, 2], [2, 0, 1]], [2, 0, 2]), run(1, [1, 2, 5, 1, 1, 3]), state(1))
        self.assertEqual(told, [3, 5, 6, 1, 2, 5, 6])

    def test_the_order_of_the_outs(self):
        swap = chain(2, [[0, 0], [0, 1]], [1, 0])
        told = ask(swap, run(3, [1, 2, 3, 4]), state(1), state(2), state(3))
        self.assertEqual(told[2:], [[2, 3, 4, 1, 2], [2, 1, 2, 3, 4], [2, 3, 4, 1, 2]])

    def test_an_out_that_hangs_on_nothing(self):
        self.assertEqual(last(chain(1, [[1, 4, 6]], [0]), run(1, [9, 1]), state(1)), [1, 2, 3])


class Refused(unittest.TestCase):
    def test_out_of_range(self):
        for number in (-1, 4, MOST, -MOST):
            self.assertEqual(last(COUNTING, run(3, [0, 1]), state(number)), [-1])

    def test_no_run(self):
        self.assertEqual(ask(state(0), state(1), state(-1)), [[-4], [-1], [-1]])
        self.assertEqual(ask(COUNTING, state(0), state(1))[1:], [[-4], [-1]])

    def test_a_run_with_a_fault(self):
        told = ask(SINKING, run(5, [2, 1]), state(0), state(2), state(5), state(6), state(-1))
        self.assertEqual(told[2:], [[-5], [-5], [-5], [-1], [-1]])

    def test_all_is_as_it_was(self):
        told = ask(COUNTING, run(3, [0, 1]), state(4), state(3))
        self.assertEqual(told[2:], [[-1], [1, 3, 1]])


if __name__ == "__main__":
    unittest.main()
