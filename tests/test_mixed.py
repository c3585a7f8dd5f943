"""Point 3: mixed and expected."""

import unittest

from tests.line import ask, ask_last, pairs


class Mixed(unittest.TestCase):
    def check(self, k, counts, mixed, expected):
        found = ask(("start", k), ("field", counts), ("mixed", 0), ("expected", 0))
        self.assertEqual(found[2:], [[0, *mixed], [0, *expected]])

    def test_two_kinds(self):
        self.check(2, [3, 2, 1], (1, 3), (4, 9))
        self.check(2, [1, 2, 1], (1, 2), (1, 2))
        self.check(2, [1, 0, 1], (0, 1), (1, 2))
        self.check(2, [0, 100, 0], (1, 1), (1, 2))

    def test_three_kinds(self):
        self.check(3, [1, 2, 0, 3, 4, 0], (3, 5), (14, 25))
        self.check(3, [0, 1, 1, 0, 1, 0], (1, 1), (2, 3))

    def test_four_kinds(self):
        self.check(4, [1, 0, 2, 1, 0, 3, 0, 2, 0, 1], (3, 5), (69, 100))
        self.check(4, [100] * 10, (3, 5), (3, 4))

    def test_nothing_mixed(self):
        self.check(2, [1, 0, 0], (0, 1), (0, 1))
        self.check(3, [0, 0, 0, 0, 0, 9], (0, 1), (0, 1))
        self.check(3, [2, 0, 0, 2, 0, 2], (0, 1), (2, 3))
        self.check(4, [0, 0, 0, 0, 5, 0, 0, 0, 0, 0], (0, 1), (0, 1))

    def test_each_pair_of_two_kinds_is_mixed(self):
        for k in (2, 3, 4):
            for place, (i, j) in enumerate(pairs(k)):
                counts = [0] * len(pairs(k))
                counts[place] = 3
                self.check(k, counts, (0, 1) if i == j else (1, 1), (0, 1) if i == j else (1, 2))

    def test_refusals(self):
        for name in ("mixed", "expected"):
            self.assertEqual(ask_last((name, 0)), [-11])
            self.assertEqual(ask_last(("start", 3), (name, 0)), [-2])
            self.assertEqual(ask_last(("start", 3), ("field", [0] * 6), (name, 0)), [-6])
            self.assertEqual(ask_last(("start", 3), ("field", [0] * 6), (name, 1)), [-2])


if __name__ == "__main__":
    unittest.main()
