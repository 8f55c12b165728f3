"""The interface: one list of calls, one list of answers, and nothing kept or changed."""

import contextlib
import io
import unittest

from backchains.chain import answers
from tests.support import (COUNTING, GROWING, SINKING, ask, backward, chain, flat, forward, least, raw_chain, run,
                           split, state)

MIXED = flat([state(0), GROWING, run(3, [8, 2, 1, 2]), state(3), backward([1, 1, 0, 1]), forward([1, 1, 0, 1]),
              raw_chain(1, [9], []), least(10, 3), split(10, 3), run(0, []), COUNTING, run(4, [1, 3]), state(4),
              SINKING, run(5, [2, 1]), state(1)])
MIXED_TOLD = [1, -4, 1, 4, 1, 0, 5, 2, 27, 2, 1, 2, 5, 2, 27, 8, 27, 1, 5, 2, 27, 8, 0, 1,
              1, -2, 1, 15, 1, 4, 1, -1, 1, 3, 1, 0, 3, 1, 19, 3,
              1, 4, 4, 1, 2, 2, 1, 1, -5]


def refuse(self, *arguments):
    raise AssertionError("the list handed in is changed")


# A list that fails where it is changed, be it for a while.
Fixed = type("Fixed", (list,), dict.fromkeys(
    ("__setitem__", "__delitem__", "__iadd__", "__imul__", "append", "clear", "extend", "insert", "pop", "remove",
     "reverse", "sort"), refuse))


class Interface(unittest.TestCase):
    def test_the_answers_stand_one_behind_another(self):
        self.assertEqual(answers(list(MIXED)), MIXED_TOLD)

    def test_the_documents_code(self):
        self.assertEqual(answers([0, 1, 10, 0, 0, 0, 1, 4, 0, 1, 2, 2, 0, 1, 3]), [1, 4])

    def test_the_list_is_the_same_afterwards(self):
        calls = list(MIXED)
        answers(calls)
        self.assertEqual(calls, MIXED)

    def test_the_list_is_not_changed_for_a_while_either(self):
        self.assertEqual(answers(Fixed(MIXED)), MIXED_TOLD)

    def test_nothing_is_kept(self):
        calls = list(MIXED)
        first = answers(calls)
        kept = list(first)
        self.assertEqual(answers(calls), kept)
        self.assertEqual(first, kept)
        self.assertEqual(answers(run(1, [1, 1])), [1, -4])
        self.assertEqual(answers(state(0)), [1, -4])

    def test_an_answer_may_be_changed_by_who_asked(self):
        answers(MIXED).clear()
        self.assertEqual(answers(MIXED), MIXED_TOLD)

    def test_whole_numbers_alone(self):
        told = answers(MIXED)
        self.assertIs(type(told), list)
        self.assertEqual({type(number) for number in told}, {int})

    def test_nothing_is_printed(self):
        out = io.StringIO()
        err = io.StringIO()
        with contextlib.redirect_stdout(out), contextlib.redirect_stderr(err):
            answers(MIXED)
        self.assertEqual(out.getvalue() + err.getvalue(), "")

    def test_a_single_call(self):
        self.assertEqual(answers(least(1, 1)), [1, 0])

    def test_empty_rows(self):
        self.assertEqual(answers([3, 0, 4, 0, 0, 1, 0, 0, 1, 1, 0]), [1, -4, 1, -4, 1, -2, 1, -4])

    def test_a_list_as_long_as_it_may_be(self):
        long = raw_chain(4, [0, 0] * 200, [0] * 100)
        calls = flat([GROWING, run(3, [4, 1, 1, 2])] + [long] * 31 + [state(3)])
        self.assertLessEqual(len(calls), 16000)
        self.assertEqual(answers(calls), [1, 4, 1, 0] + [1, -7] * 31 + [5, 2, 27, 2, 1, 2])

    def test_many_runs(self):
        calls = [run(40, [1, 3]), backward([1, 1])] * 199
        told = ask(chain(1, [[0, 0], [0, 1], [1, 1, 2], [4, 0, 2], [2, 3, 1]], [4]), *calls)
        self.assertEqual(told[1:], [[0], [1, 1, 2 ** 40]] * 199)


if __name__ == "__main__":
    unittest.main()
