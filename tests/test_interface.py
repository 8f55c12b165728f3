"""The interface: one list of calls, one list of answers, and nothing kept or changed."""

import contextlib
import io
import unittest

from backchains.chain import answers
from tests.maker import Maker, flatten
from tests.model import Model
from tests.support import (COUNTING, GROWING, SINKING, STEP, TURN, ask, auto, backward, chain, check, flat, forward,
                           least, most, part, play, raw_chain, room, run, schedule, split, state, take, told_acts)

MIXED = flat([state(0), GROWING, run(3, [8, 2, 1, 2]), state(3), backward([1, 1, 0, 1]), forward([1, 1, 0, 1]),
              raw_chain(1, [9], []), least(10, 3), split(10, 3), run(0, []), COUNTING, run(4, [1, 3]), state(4),
              most(2, 4), room(4, 4), schedule(2, 1), check(2, 1, [take(0), STEP, TURN, take(0), TURN]),
              check(2, 1, [TURN]), play(1, [0, 0, 2, 3, 0, 0, 3], [1, 1]), run(2, [1, 3]),
              play(1, [0, 0, 2, 3, 0, 0, 3], [2, 4]), auto(3, [3, 1]), most(0, 0), room(0, 0), schedule(0, 0),
              check(1, 1, [4]), play(11, [], []), auto(0, []),
              SINKING, run(5, [2, 1]), state(1), auto(1, [1, 1])])
MIXED_TOLD = [1, -4, 1, 4, 1, 0, 5, 2, 27, 2, 1, 2, 5, 2, 27, 8, 27, 1, 5, 2, 27, 8, 0, 1,
              1, -2, 1, 15, 1, 4, 1, -1, 1, 3, 1, 0, 3, 1, 19, 3,
              1, 4, 1, 2, 8, 7, 0, 0, 2, 3, 0, 0, 3, 3, 0, 1, 1,
              3, 1, 0, 3, 1, -8, 1, 0,
              3, 1, 1, 2, 3, 1, 3, 1, 1, -1, 1, -1, 1, -1,
              1, -2, 1, -1, 1, -1,
              1, 4, 4, 1, 2, 2, 1, 1, -5, 1, -5]


def refuse(self, *arguments):
    raise AssertionError("the list handed in is changed")


# A list that fails where it is changed, be it for a while.
Fixed = type("Fixed", (list,), dict.fromkeys(
    ("__setitem__", "__delitem__", "__iadd__", "__imul__", "append", "clear", "extend", "insert", "pop", "remove",
     "reverse", "sort"), refuse))


class Interface(unittest.TestCase):
    def test_the_answers_stand_one_behind_another(self):
        self.assertEqual(answers(list(MIXED)), MIXED_TOLD)

    def test_the_documents_code(self):
        self.assertEqual(answers([0, 1, 10, 0, 0, 0, 1, 4, 0, 1, 2, 2, 0, 1, 3]), [1, 4])

    def test_the_list_is_the_same_afterwards(self):
        calls = list(MIXED)
        answers(calls)
        self.assertEqual(calls, MIXED)

    def test_the_list_is_not_changed_for_a_while_either(self):
        self.assertEqual(answers(Fixed(MIXED)), MIXED_TOLD)

    def test_nothing_is_kept(self):
        calls = list(MIXED)
        first = answers(calls)
        kept = list(first)
        self.assertEqual(answers(calls), kept)
        self.assertEqual(first, kept)
        self.assertEqual(answers(run(1, [1, 1])), [1, -4])
        self.assertEqual(answers(state(0)), [1, -4])

    def test_an_answer_may_be_changed_by_who_asked(self):
        answers(MIXED).clear()
        self.assertEqual(answers(MIXED), MIXED_TOLD)

    def test_whole_numbers_alone(self):
        told = answers(MIXED)
        self.assertIs(type(told), list)
        self.assertEqual({type(number) for number in told}, {int})

    def test_nothing_is_printed(self):
        out = io.StringIO()
        err = io.StringIO()
        with contextlib.redirect_stdout(out), contextlib.redirect_stderr(err):
            answers(MIXED)
        self.assertEqual(out.getvalue() + err.getvalue(), "")

    def test_a_single_call(self):
        self.assertEqual(answers(least(1, 1)), [1, 0])

    def test_a_single_call_of_each_kind(self):
        calls = [GROWING, run(1, []), state(0), backward([]), forward([]), least(3, 2), split(3, 2), most(2, 2),
                 room(3, 2), schedule(1, 1), check(1, 1, [0, 0, 3]), play(1, [], []), auto(1, [])]
        told = [[4], [-4], [-4], [-4], [-4], [2], [1], [3], [2], [3, 0, 0, 3], [0, 0, 1], [-4], [-4]]
        self.assertEqual([call[0] for call in calls], list(range(13)))
        for call, answer in zip(calls, told):
            self.assertEqual(answers(call), [len(answer)] + answer)
        self.assertEqual(ask(*reversed(calls)), told[::-1])

    def test_empty_rows(self):
        self.assertEqual(answers([3, 0, 4, 0, 0, 1, 0, 0, 1, 1, 0]), [1, -4, 1, -4, 1, -2, 1, -4])
        self.assertEqual(answers([10, 1, 1, 0, 11, 1, 0, 0, 12, 1, 0]), [3, 1, 0, 6, 1, -4, 1, -4])

    def test_400_calls(self):
        for seed in range(5):
            made = [call for call in Maker(seed).calls(900) if len(flatten(call)) < 100][:400]
            self.assertEqual(len(made), 400)
            self.assertEqual({call[0] for call in made}, set(range(13)))
            calls = flat(flatten(call) for call in made)
            self.assertLessEqual(len(calls), 16000)
            before = list(calls)
            told = answers(calls)
            model = Model()
            self.assertEqual(part(told), [model.answer(*call) for call in made])
            self.assertEqual(calls, before)
            self.assertEqual(answers(calls), told)
            self.assertEqual(answers(Fixed(calls)), told)

    def test_400_of_the_longest_answers(self):
        told = ask(*[schedule(50, 1)] * 400)
        self.assertEqual(told, [told[0]] * 400)
        self.assertEqual(len(told[0]), 1376)

    def test_400_plays(self):
        told = ask(COUNTING, run(40, [1, 3]), *[auto(1, [1, 1])] * 398)
        self.assertEqual(told[2:], [[1, 1, 1]] * 398)

    def test_lists_of_acts_as_long_as_they_may_be(self):
        acts = told_acts(40, 3)
        calls = flat([COUNTING, run(40, [1, 3]), check(40, 3, [2] * 5000), play(3, [0, 0] * 2500, [1] * 100),
                      check(1, 1, [3] * 5000), play(3, acts, [7, 2])])
        self.assertLessEqual(len(calls), 16000)
        self.assertEqual(answers(calls), [1, 3, 1, 0, 1, -7, 1, -7, 1, -7, 3, 1, 7, 2])

    def test_a_list_as_long_as_it_may_be(self):
        long = raw_chain(4, [0, 0] * 200, [0] * 100)
        calls = flat([GROWING, run(3, [4, 1, 1, 2])] + [long] * 31 + [state(3)])
        self.assertLessEqual(len(calls), 16000)
        self.assertEqual(answers(calls), [1, 4, 1, 0] + [1, -7] * 31 + [5, 2, 27, 2, 1, 2])

    def test_many_runs(self):
        calls = [run(40, [1, 3]), backward([1, 1])] * 199
        told = ask(chain(1, [[0, 0], [0, 1], [1, 1, 2], [4, 0, 2], [2, 3, 1]], [4]), *calls)
        self.assertEqual(told[1:], [[0], [1, 1, 2 ** 40]] * 199)


if __name__ == "__main__":
    unittest.main()
