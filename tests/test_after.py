"""Point 2: after."""

import unittest
from math import gcd

from tests.line import MOST, ask, ask_last, pairs

TWO = (("start", 2), ("field", [3, 2, 1]))
THREE = (("start", 3), ("field", [1, 2, 0, 3, 4, 0]))
FOUR = (("start", 4), ("field", [1, 0, 2, 1, 0, 3, 0, 2, 0, 1]))
ALL = ((2, TWO), (3, THREE), (4, FOUR))


class After(unittest.TestCase):
    def check(self, begin, kinds, s, n, fractions):
        for (i, j), fraction in zip(pairs(kinds), fractions):
            self.assertEqual(ask_last(*begin, ("after", 0, s, n, i, j)), [0, *fraction])
            self.assertEqual(ask_last(*begin, ("after", 0, s, n, j, i)), [0, *fraction])

    def test_two_kinds_half_by_themselves(self):
        self.check(TWO, 2, 50, 1, [(37, 72), (11, 36), (13, 72)])
        self.check(TWO, 2, 50, 2, [(149, 288), (43, 144), (53, 288)])

    def test_three_kinds_a_quarter_by_themselves(self):
        # By themselves, of 40: 6, 4, 0, 18, 8, 4; by any, of 25: 1, 6, 2, 9, 6, 1.
        fractions = [(27, 400), (41, 200), (3, 50), (153, 400), (23, 100), (11, 200)]
        self.check(THREE, 3, 25, 1, fractions)

    def test_four_kinds_all_by_themselves(self):
        # Of 40: 7, 0, 4, 2, 3, 6, 0, 13, 0, 5.
        fractions = [
            (7, 40), (0, 1), (1, 10), (1, 20), (3, 40), (3, 20), (0, 1), (13, 40), (0, 1), (1, 8),
        ]
        self.check(FOUR, 4, 100, 1, fractions)

    def test_no_generation_on_it_is_the_share(self):
        for k, begin in ALL:
            for i, j in pairs(k):
                share = ask_last(*begin, ("share", 0, i, j))
                for s in (0, 1, 50, 100):
                    self.assertEqual(ask_last(*begin, ("after", 0, s, 0, i, j)), share)

    def test_s_of_0_is_next_however_far_on(self):
        for k, begin in ALL:
            for i, j in pairs(k):
                found = ask_last(*begin, ("next", 0, i, j))
                for n in (1, 2, 3):
                    self.assertEqual(ask_last(*begin, ("after", 0, 0, n, i, j)), found)

    def test_s_of_100(self):
        self.check(TWO, 2, 100, 1, [(7, 12), (1, 6), (1, 4)])
        self.check(TWO, 2, 100, 2, [(5, 8), (1, 12), (7, 24)])
        self.check(TWO, 2, 100, 3, [(31, 48), (1, 24), (5, 16)])

    def test_s_of_1_and_99(self):
        self.check((("start", 2), ("field", [1, 0, 1])), 2, 1, 1, [(101, 400), (99, 200), (101, 400)])
        self.check((("start", 2), ("field", [1, 0, 1])), 2, 99, 1, [(199, 400), (1, 200), (199, 400)])

    def test_bounds(self):
        for told, answer in (
            ((100, 3), 0), ((0, 0), 0), ((101, 0), -22), ((101, 3), -22), ((MOST, 1), -22), ((0, 4), -22),
            ((100, 4), -22), ((50, MOST), -22), ((101, 4), -22), ((MOST, MOST), -22),
        ):
            found = ask_last(*TWO, ("after", 0, *told, 0, 1))
            self.assertEqual(found[0], answer)
            self.assertEqual(len(found), 3 if answer == 0 else 1)

    def test_which_refusal(self):
        empty = (("start", 2), ("field", [0, 0, 0]))
        self.assertEqual(ask_last(*empty, ("after", 1, 101, 4, 2, 2)), [-2])
        self.assertEqual(ask_last(*empty, ("after", 0, 101, 4, 2, 2)), [-6])
        self.assertEqual(ask_last(*empty, ("after", 0, 101, 0, 0, 0)), [-6])
        self.assertEqual(ask_last(*empty, ("after", 0, 0, 4, 0, 0)), [-6])
        self.assertEqual(ask_last(*TWO, ("after", 0, 0, 0, 2, 0)), [-22])
        self.assertEqual(ask_last(*TWO, ("after", 0, 0, 0, 0, 2)), [-22])

    def test_great_fractions_are_exact(self):
        begin = (("start", 4), ("field", [97, 89, 83, 79, 73, 71, 67, 61, 59, 53]))
        # By fractions and plant by plant, as tests/model.py does it.
        self.check(begin, 4, 37, 3, GREAT)

    def test_no_common_divisor(self):
        for k, begin in ALL:
            for s in (0, 1, 37, 50, 64, 100):
                for n in range(4):
                    found = ask(*begin, *[("after", 0, s, n, i, j) for i, j in pairs(k)])[2:]
                    for answer in found:
                        self.assertEqual(gcd(answer[1], answer[2]), 1)
                        self.assertGreater(answer[2], 0)


GREAT = [
    (133710774291, 952576000000),
    (171093352313, 1428864000000),
    (153700836731, 1428864000000),
    (142713488083, 1428864000000),
    (102840055043, 952576000000),
    (128850050867, 1428864000000),
    (119632431691, 1428864000000),
    (263938948249, 2857728000000),
    (107430164153, 1428864000000),
    (79098638691, 952576000000),
]


if __name__ == "__main__":
    unittest.main()
