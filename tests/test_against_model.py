"""All promises on many lists of calls: the program answers what a second reading of the document does."""

import unittest

from tests.maker import Maker, flatten
from tests.model import Model
from tests.support import ask

WANTED = {0: (1, -1, -2, -3, -7), 1: (0, 1, -1, -2, -4), 2: (1, -1, -4, -5), 3: (1, -2, -4, -5),
          4: (1, -2, -4, -5), 5: (0, 1, -1), 6: (1, -1), 7: (1, -1), 8: (0, 1, -1), 9: (1, -1), 10: (0, 1, -1, -2, -7),
          11: (1, -1, -2, -7, -4, -5, -8), 12: (1, -1, -2, -4, -5)}


class AgainstModel(unittest.TestCase):
    def test_many_lists_of_calls(self):
        seen = {}
        reasons = {}
        for seed in range(1500):
            calls = Maker(seed).calls(16)
            model = Model()
            expected = [model.answer(*call) for call in calls]
            self.assertEqual(ask(*[flatten(call) for call in calls]), expected, seed)
            for call, answer in zip(calls, expected):
                sort = (call[0], min(answer[0], 1))
                seen[sort] = seen.get(sort, 0) + 1
                if sort == (10, 1):
                    reasons[answer[2]] = True
        self.assertEqual([(kind, first) for kind in WANTED for first in WANTED[kind] if (kind, first) not in seen], [])
        self.assertEqual(sorted(reasons), [1, 2, 3, 4, 5, 6])


if __name__ == "__main__":
    unittest.main()
