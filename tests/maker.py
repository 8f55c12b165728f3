"""Makes lists of calls, to hold the program against the model."""

import random

from tests.model import told_schedule
from tests.support import row

SMALL = (-3, -2, -1, 0, 1, 2, 3)
LARGE = (10 ** 18, -10 ** 18, 10 ** 18 - 11, 2 ** 59, 3 ** 37)


class Maker:
    """Makes calls that are mostly right; the same ones for the same seed."""

    def __init__(self, seed):
        self.random = random.Random(seed)
        self.parts = 1
        self.steps = 1

    def seldom(self, often=20):
        return self.random.randrange(often) == 0

    def number(self):
        return self.random.choice(LARGE) if self.seldom() else self.random.choice(SMALL)

    def denominator(self):
        return self.number() if self.seldom(30) else self.random.randrange(1, 5)

    def fractions(self):
        count = self.random.randrange(6) if self.seldom() else self.parts
        numbers = []
        for _ in range(count):
            numbers += [self.number(), self.denominator()]
        return numbers[1:] if self.seldom(40) else numbers

    def line(self, number):
        kind = self.random.choice((0, 0, 1, 2, 2, 3, 3, 4, 4, 5, 6)) if number else self.random.choice((0, 1))
        if self.seldom(300):
            kind = self.random.choice((-1, 7))
        if kind == 0:
            return [0, self.random.randrange(self.parts + (2 if self.seldom(100) else 1))]
        if kind == 1:
            return [1, self.number(), self.denominator()]
        limit = number + 1 if self.seldom(200) else max(1, number)
        return [kind] + [self.random.randrange(limit) for _ in range(1 if kind == 6 else 2)]

    def chain(self):
        self.parts = self.random.randrange(1, 5)
        count = self.random.randrange(29, 33) if self.seldom() else self.random.randrange(1, 9)
        numbers = [number for k in range(count) for number in self.line(k)]
        outs = [self.random.randrange(count + (1 if self.seldom(40) else 0)) for _ in range(self.parts)]
        parts = self.random.choice((0, 5, 1, 4)) if self.seldom(40) else self.parts
        return [0, parts, numbers[:-1] if self.seldom(60) else numbers, outs]

    def within(self, low, high):
        """A number of the range, mostly one of its lower ones, seldom one just outside."""
        if self.seldom(15):
            return self.random.choice((low - 1, high + 1, low, high))
        return self.random.randrange(low, high + 1) if self.seldom(4) else self.random.randrange(low, min(high, low + 7))

    def some_act(self, slots):
        kind = self.random.randrange(4)
        return [kind] if kind > 1 else [kind, self.random.randrange(slots + 1)]

    def wandering(self, steps, slots):
        """Acts of a schedule that can be played, with detours."""
        where = {0: 0}
        acts = []
        for wanted in reversed(range(steps)):
            slot = self.random.choice([slot for slot in where if where[slot] <= wanted])
            acts.append([0, slot])
            at = where[slot]
            while at < wanted or self.seldom(8) and at < steps:
                acts.append([2])
                at += 1
                spare = self.random.randrange(slots)
                if spare and self.seldom(3):
                    acts.append([1, spare])
                    where[spare] = at
                if at > wanted:
                    acts.append([0, 0])
                    at = 0
            acts.append([3])
        return acts

    def acts(self, steps, slots):
        slots = max(1, min(slots, 10))
        make = self.random.choice((told_schedule, self.wandering))
        acts = make(max(1, min(steps, 50)), slots)
        while self.seldom(2):
            place = self.random.randrange(len(acts) + 1)
            acts[place:place + self.random.randrange(2)] = [self.some_act(slots)] * self.random.randrange(2)
        if self.seldom(40):
            acts = (acts + [[0, 0]]) * 2001
        acts = acts[:2001] if len(acts) > 2000 else acts
        numbers = [number for act in acts for number in act]
        if self.seldom(30):
            numbers.insert(self.random.randrange(len(numbers) + 1), self.random.choice((-1, 4, 0, 10 ** 18)))
        return numbers

    def run(self):
        steps = self.random.choice((0, 41, 40)) if self.seldom(15) else self.random.randrange(1, 7)
        self.steps = steps
        return [1, steps, self.fractions()]

    def limit(self):
        return self.within(0, 1000000) if self.seldom(4) else self.random.randrange(200)

    def planned(self, kind):
        """One of the calls about least numbers and schedules."""
        if kind == 7:
            return [7, self.within(1, 20), self.limit()]
        if kind == 8:
            return [8, self.within(1, 60), self.limit()]
        if kind < 9:
            return [kind, self.within(1, 60), self.within(1, 20)]
        slots = self.within(1, 10)
        if kind == 9:
            return [9, self.within(1, 50), slots]
        if kind == 10:
            steps = self.within(1, 50)
            return [10, steps, slots, self.acts(steps, slots)]
        if kind == 11:
            return [11, slots, self.acts(self.steps, slots), self.fractions()]
        return [12, slots, self.fractions()]

    def call(self):
        kind = self.random.choice((0, 1, 1, 2, 2, 3, 3, 4, 4, 5, 6, 7, 8, 9, 10, 10, 11, 11, 11, 12, 12))
        if kind == 0:
            return self.chain()
        if kind == 1:
            return self.run()
        if kind == 2:
            return [2, self.random.randrange(-1, 7)]
        if kind > 4:
            return self.planned(kind)
        return [kind, self.fractions()]

    def calls(self, count):
        made = [] if self.seldom() else [self.chain(), self.run()]
        return made + [self.call() for _ in range(count)]


def flatten(call):
    told = []
    for argument in call:
        told += row(argument) if isinstance(argument, list) else [argument]
    return told
