"""Promises 1 to 4 on many lists of calls: the program answers what a second reading of the document does."""

import random
import unittest

from tests.model import Model
from tests.support import ask, row

SMALL = (-3, -2, -1, 0, 1, 2, 3)
LARGE = (10 ** 18, -10 ** 18, 10 ** 18 - 11, 2 ** 59, 3 ** 37)


class Maker:
    """Makes calls that are mostly right; the same ones for the same seed."""

    def __init__(self, seed):
        self.random = random.Random(seed)
        self.parts = 1

    def seldom(self, often=20):
        return self.random.randrange(often) == 0

    def number(self):
        return self.random.choice(LARGE) if self.seldom() else self.random.choice(SMALL)

    def denominator(self):
        return self.number() if self.seldom(30) else self.random.randrange(1, 5)

    def fractions(self):
        count = self.random.randrange(6) if self.seldom() else self.parts
        numbers = []
        for _ in range(count):
            numbers += [self.number(), self.denominator()]
        return numbers[1:] if self.seldom(40) else numbers

    def line(self, number):
        kind = self.random.choice((0, 0, 1, 2, 2, 3, 3, 4, 4, 5, 6)) if number else self.random.choice((0, 1))
        if self.seldom(300):
            kind = self.random.choice((-1, 7))
        if kind == 0:
            return [0, self.random.randrange(self.parts + (2 if self.seldom(100) else 1))]
        if kind == 1:
            return [1, self.number(), self.denominator()]
        limit = number + 1 if self.seldom(200) else max(1, number)
        return [kind] + [self.random.randrange(limit) for _ in range(1 if kind == 6 else 2)]

    def chain(self):
        self.parts = self.random.randrange(1, 5)
        count = self.random.randrange(29, 33) if self.seldom() else self.random.randrange(1, 9)
        numbers = [number for k in range(count) for number in self.line(k)]
        outs = [self.random.randrange(count + (1 if self.seldom(40) else 0)) for _ in range(self.parts)]
        parts = self.random.choice((0, 5, 1, 4)) if self.seldom(40) else self.parts
        return [0, parts, numbers[:-1] if self.seldom(60) else numbers, outs]

    def call(self):
        kind = self.random.choice((0, 1, 1, 2, 2, 3, 3, 4, 4))
        if kind == 0:
            return self.chain()
        if kind == 1:
            steps = self.random.choice((0, 41, 40)) if self.seldom(15) else self.random.randrange(1, 7)
            return [1, steps, self.fractions()]
        if kind == 2:
            return [2, self.random.randrange(-1, 7)]
        return [kind, self.fractions()]

    def calls(self, count):
        made = [] if self.seldom() else [self.chain(), [1, self.random.randrange(1, 7), self.fractions()]]
        return made + [self.call() for _ in range(count)]


def flatten(call):
    told = []
    for argument in call:
        told += row(argument) if isinstance(argument, list) else [argument]
    return told


class AgainstModel(unittest.TestCase):
    def test_many_lists_of_calls(self):
        seen = {}
        for seed in range(1500):
            calls = Maker(seed).calls(8)
            model = Model()
            expected = [model.answer(*call) for call in calls]
            self.assertEqual(ask(*[flatten(call) for call in calls]), expected, seed)
            for call, answer in zip(calls, expected):
                sort = (call[0], min(answer[0], 1))
                seen[sort] = seen.get(sort, 0) + 1
        wanted = [(0, 1), (0, -1), (0, -2), (0, -3), (0, -7), (1, 0), (1, 1), (1, -1), (1, -2), (1, -4),
                  (2, 1), (2, -1), (2, -4), (2, -5), (3, 1), (3, -2), (3, -4), (3, -5), (4, 1), (4, -2), (4, -4), (4, -5)]
        self.assertEqual([sort for sort in wanted if sort not in seen], [])


if __name__ == "__main__":
    unittest.main()
