"""Promise 1: chain."""

import unittest

from tests.support import (COUNTING, GROWING, MOST, ask, backward, chain, last, raw_chain, run, state)

ONE_LINE = [[0, 0]]


class Answered(unittest.TestCase):
    def test_how_many_lines(self):
        self.assertEqual(ask(GROWING), [[4]])
        self.assertEqual(ask(COUNTING), [[3]])

    def test_every_kind_of_line(self):
        lines = [[0, 0], [1, -3, 4], [2, 0, 1], [3, 1, 0], [4, 2, 2], [5, 0, 1], [6, 5]]
        self.assertEqual(ask(chain(1, lines, [6])), [[7]])

    def test_each_end_of_the_parts(self):
        for parts in (1, 2, 3, 4):
            self.assertEqual(ask(chain(parts, ONE_LINE, [0] * parts)), [[1]])
        for parts in (0, 5, -1, MOST, -MOST):
            self.assertEqual(ask(chain(parts, ONE_LINE, [0] * (abs(parts) % 7))), [[-1]])

    def test_30_and_31_lines(self):
        self.assertEqual(ask(chain(1, [[0, 0]] * 30, [29])), [[30]])
        self.assertEqual(ask(chain(1, [[0, 0]] * 31, [29])), [[-7]])

    def test_the_last_of_the_inputs_is_the_steps_number(self):
        for parts in (1, 2, 3, 4):
            self.assertEqual(ask(chain(parts, [[0, parts]], [0] * parts)), [[1]])
            self.assertEqual(ask(chain(parts, [[0, parts + 1]], [0] * parts)), [[-3]])

    def test_constants_as_large_as_they_may_be(self):
        lines = [[1, MOST, 1], [1, -MOST, MOST], [1, 0, MOST]]
        self.assertEqual(ask(chain(1, lines, [2])), [[3]])


class Form(unittest.TestCase):
    def test_kinds(self):
        for kind in (-1, 7, MOST, -MOST):
            self.assertEqual(ask(raw_chain(1, [0, 0, kind, 0, 0], [0])), [[-2]])

    def test_numbers_that_are_missing(self):
        for numbers in ([0], [1], [1, 2], [2], [2, 0], [3], [3, 0], [4], [4, 0], [5], [5, 0], [6]):
            self.assertEqual(ask(raw_chain(1, [0, 0] + numbers, [0])), [[-2]], numbers)

    def test_numbers_below_0(self):
        for line in ([0, -1], [2, -1, 0], [2, 0, -1], [3, -1, 0], [3, 0, -1], [4, -1, 0], [4, 0, -1],
                     [5, -1, 0], [5, 0, -1], [6, -1], [6, -MOST]):
            self.assertEqual(ask(chain(1, [[0, 0], line], [0])), [[-2]], line)

    def test_denominators_of_constants(self):
        self.assertEqual(ask(chain(1, [[1, 5, 1]], [0])), [[1]])
        for denominator in (0, -1, -MOST):
            self.assertEqual(ask(chain(1, [[1, 5, denominator]], [0])), [[-2]])

    def test_an_empty_code_has_no_line_for_an_out(self):
        self.assertEqual(ask(raw_chain(1, [], [0])), [[-2]])
        self.assertEqual(ask(raw_chain(1, [], [])), [[-2]])

    def test_lists_as_long_as_they_may_be(self):
        self.assertEqual(ask(raw_chain(1, [0, 0] * 200, [0])), [[-7]])
        self.assertEqual(ask(raw_chain(1, [0, 0] * 199 + [1, 1], [0])), [[-2]])
        self.assertEqual(ask(raw_chain(4, [0, 0], [0] * 100)), [[-2]])


class Uses(unittest.TestCase):
    def test_lines_that_are_not_earlier(self):
        for line in ([2, 1, 0], [2, 0, 1], [3, 1, 0], [3, 0, 1], [4, 1, 0], [4, 0, 1], [5, 1, 0], [5, 0, 1],
                     [6, 1], [6, MOST], [2, 0, 2]):
            self.assertEqual(ask(chain(1, [[0, 0], line, [0, 0]], [0])), [[-3]], line)

    def test_the_first_line_has_none_earlier(self):
        self.assertEqual(ask(chain(1, [[6, 0]], [0])), [[-3]])

    def test_the_line_just_before(self):
        self.assertEqual(ask(chain(1, [[0, 0], [6, 0], [6, 1], [2, 2, 2]], [3])), [[4]])


class Outs(unittest.TestCase):
    def test_just_as_many_as_parts(self):
        for outs in ([], [0], [0, 0, 0]):
            self.assertEqual(ask(chain(2, ONE_LINE, outs)), [[-2]])
        self.assertEqual(ask(chain(2, ONE_LINE, [0, 0])), [[1]])

    def test_each_of_a_line(self):
        for out in (-1, 2, MOST, -MOST):
            self.assertEqual(ask(chain(2, [[0, 0], [0, 1]], [1, out])), [[-2]])
            self.assertEqual(ask(chain(2, [[0, 0], [0, 1]], [out, 1])), [[-2]])


class Order(unittest.TestCase):
    def test_the_parts_first(self):
        self.assertEqual(ask(raw_chain(5, [9], [])), [[-1]])
        self.assertEqual(ask(raw_chain(0, [0, 0] * 31, [])), [[-1]])

    def test_the_form_ahead_of_too_many(self):
        self.assertEqual(ask(raw_chain(1, [0, 0] * 31 + [7], [0])), [[-2]])

    def test_the_form_ahead_of_an_unknown_line(self):
        self.assertEqual(ask(raw_chain(1, [6, 5, 1, 1, 0], [0])), [[-2]])

    def test_too_many_ahead_of_an_unknown_line(self):
        self.assertEqual(ask(raw_chain(1, [6, 5] + [0, 0] * 30, [0])), [[-7]])

    def test_too_many_ahead_of_the_outs(self):
        self.assertEqual(ask(raw_chain(1, [0, 0] * 31, [])), [[-7]])

    def test_an_unknown_line_ahead_of_the_outs(self):
        self.assertEqual(ask(raw_chain(1, [6, 5], [])), [[-3]])
        self.assertEqual(ask(raw_chain(1, [0, 2], [7, 7])), [[-3]])


class Kept(unittest.TestCase):
    def test_no_run_is_told_behind_a_chain(self):
        told = ask(COUNTING, run(3, [5, 1]), COUNTING, state(0), state(1), backward([1, 1]))
        self.assertEqual(told[3:], [[-4], [-1], [-4]])

    def test_the_new_chain_is_the_one_that_runs(self):
        told = ask(GROWING, COUNTING, run(3, [5, 1]), state(3))
        self.assertEqual(told[2:], [[0], [1, 8, 1]])

    def test_all_is_as_it_was_behind_each_refusal(self):
        refused = [raw_chain(5, [0, 0], [0]), raw_chain(1, [8], [0]), raw_chain(1, [0, 0] * 31, [0]),
                   raw_chain(1, [6, 0], [0]), raw_chain(1, [0, 0], [1])]
        for call, number in zip(refused, (-1, -2, -7, -3, -2)):
            told = ask(COUNTING, run(3, [5, 1]), call, state(3), run(2, [1, 1]))
            self.assertEqual(told[2:], [[number], [1, 8, 1], [0]])
            self.assertEqual(last(call, run(1, [])), [-4])


if __name__ == "__main__":
    unittest.main()
