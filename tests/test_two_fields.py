"""Point 4: together, cross and crossNext."""

import unittest

from tests.line import MOST, ask, ask_last, pairs

TWO = (("start", 2), ("field", [3, 2, 1]), ("field", [1, 0, 3]))
THREE = (("start", 3), ("field", [1, 2, 0, 3, 4, 0]), ("field", [0, 0, 1, 0, 0, 4]))
FOUR = (("start", 4), ("field", [1, 0, 2, 1, 0, 3, 0, 2, 0, 1]), ("field", [0, 1, 0, 0, 2, 0, 3, 0, 0, 4]))
ALL = ((2, TWO), (3, THREE), (4, FOUR))

# What asks for two fields; f, g, then numbers that would do with any kinds.
ASKING = [("together", 0, 1), ("cross", 0, 1, 0, 1), ("crossNext", 0, 1)]


def of_fields(k, one, other, *calls):
    return ask(("start", k), ("field", one), ("field", other), *calls)[3:]


class Together(unittest.TestCase):
    def check(self, begin, expected, mixed):
        for f, g in ((0, 1), (1, 0)):
            self.assertEqual(ask_last(*begin, ("together", f, g)), [0, *expected, *mixed])

    def test_two_kinds(self):
        self.check(TWO, (1, 2), (1, 5))

    def test_three_kinds(self):
        self.check(THREE, (281, 450), (7, 15))

    def test_four_kinds(self):
        self.check(FOUR, (583, 800), (1, 2))

    def test_the_greater_field_counts_more(self):
        self.check((("start", 2), ("field", [1, 0, 0]), ("field", [0, 0, 3])), (3, 8), (0, 1))
        self.check((("start", 2), ("field", [100, 0, 0]), ("field", [0, 1, 0])), (201, 20402), (1, 101))

    def test_more_than_100_of_a_pair(self):
        self.check((("start", 2), ("field", [100, 0, 100]), ("field", [100, 100, 100])), (1, 2), (1, 5))

    def test_with_itself_it_is_as_it_is(self):
        for k, begin in ALL:
            for f in (0, 1):
                found = ask(*begin, ("together", f, f), ("expected", f), ("mixed", f))[3:]
                self.assertEqual(found[0], found[1] + found[2][1:])

    def test_all_of_one_kind(self):
        self.check((("start", 2), ("field", [4, 0, 0]), ("field", [7, 0, 0])), (0, 1), (0, 1))
        self.check((("start", 2), ("field", [5, 0, 0]), ("field", [0, 0, 5])), (1, 2), (0, 1))

    def test_nothing_is_thrown_together_for_real(self):
        calls = [("size", 0), ("size", 1), ("share", 0, 0, 1), ("share", 1, 0, 1), ("state",)]
        for k, begin in ALL:
            before = ask(*begin, *calls)[3:]
            self.assertEqual(ask(*begin, ("together", 0, 1), *calls)[4:], before)


class Cross(unittest.TestCase):
    def check(self, begin, k, fractions):
        for (i, j), fraction in zip(pairs(k), fractions, strict=True):
            for f, g in ((0, 1), (1, 0)):
                self.assertEqual(ask_last(*begin, ("cross", f, g, i, j)), [0, *fraction])
                self.assertEqual(ask_last(*begin, ("cross", f, g, j, i)), [0, *fraction])

    def test_two_kinds(self):
        self.check(TWO, 2, [(1, 6), (7, 12), (1, 4)])

    def test_three_kinds(self):
        self.check(THREE, 3, [(1, 50), (3, 50), (1, 5), (0, 1), (27, 50), (9, 50)])

    def test_four_kinds(self):
        fractions = [
            (1, 80), (43, 400), (9, 400), (29, 200), (3, 50), (9, 50), (57, 400), (0, 1), (99, 400), (33, 400),
        ]
        self.check(FOUR, 4, fractions)

    def test_the_size_of_a_field_is_no_matter(self):
        self.check((("start", 2), ("field", [1, 0, 0]), ("field", [0, 0, 100])), 2, [(0, 1), (1, 1), (0, 1)])
        self.check((("start", 2), ("field", [100, 0, 0]), ("field", [0, 1, 0])), 2, [(1, 2), (1, 2), (0, 1)])

    def test_a_field_with_itself_is_next(self):
        for k, begin in ALL:
            for i, j in pairs(k):
                for f in (0, 1):
                    found = ask(*begin, ("cross", f, f, i, j), ("next", f, i, j))
                    self.assertEqual(found[-2], found[-1])

    def test_a_kind_that_is_not_there(self):
        begin = (("start", 3), ("field", [1, 0, 0, 1, 0, 0]), ("field", [0, 1, 0, 0, 0, 0]))
        self.check(begin, 3, [(1, 4), (1, 2), (0, 1), (1, 4), (0, 1), (0, 1)])

    def test_no_such_kind(self):
        for k, begin in ALL:
            for i in (k, k + 1, 2 ** 31, MOST):
                for told in ((i, 0), (0, i), (i, i), (k - 1, i)):
                    self.assertEqual(ask_last(*begin, ("cross", 0, 1, *told)), [-22])
            self.assertEqual(ask_last(*begin, ("cross", 0, 1, k - 1, k - 1))[0], 0)


class CrossNext(unittest.TestCase):
    def check(self, k, one, other, answer):
        found = of_fields(k, one, other, ("crossNext", 0, 1), ("crossNext", 1, 0))
        self.assertEqual(found, [answer, answer])

    def test_kinds_shares_that_are_not_alike(self):
        for k, begin in ALL:
            for f, g in ((0, 1), (1, 0)):
                self.assertEqual(ask_last(*begin, ("crossNext", f, g)), [0, 1])
        self.check(2, [1, 0, 0], [0, 0, 1], [0, 1])
        self.check(2, [1, 2, 1], [4, 4, 1], [0, 1])
        self.check(3, [1, 0, 0, 0, 0, 0], [0, 0, 0, 0, 1, 0], [0, 1])
        self.check(4, [100] * 10, [100] * 9 + [99], [0, 1])

    def test_kinds_shares_that_are_alike(self):
        self.check(2, [1, 0, 1], [0, 1, 0], [1, 1])
        self.check(2, [3, 2, 1], [2, 0, 1], [1, 1])
        self.check(3, [1, 0, 0, 1, 0, 1], [0, 1, 1, 0, 1, 0], [1, 1])
        self.check(4, [100] * 10, [0, 1, 0, 0, 0, 0, 0, 0, 1, 0], [1, 1])
        self.check(4, [0, 0, 0, 0, 0, 0, 0, 0, 0, 9], [0, 0, 0, 0, 0, 0, 0, 0, 0, 1], [1, 1])

    def test_a_field_with_itself(self):
        for k, begin in ALL:
            for f in (0, 1):
                self.assertEqual(ask_last(*begin, ("crossNext", f, f)), [1, 1])


class Refusals(unittest.TestCase):
    def check(self, begin, f, g, answer):
        for call in ASKING:
            wrong = (call[0], f, g) + (MOST,) * (len(call) - 3)
            for asked in ((call[0], f, g, *call[3:]), wrong):
                with self.subTest(begin=begin, asked=asked):
                    self.assertEqual(ask_last(*begin, asked), [answer])

    def test_not_started(self):
        self.check((), 0, 0, -11)
        self.check((), MOST, MOST, -11)
        self.check((("start", 5),), 0, 1, -11)

    def test_the_first_goes_ahead_of_the_second(self):
        for k in (2, 3, 4):
            many = len(pairs(k))
            # Field 0 has plants, field 1 has none, there is no field 2.
            begin = (("start", k), ("field", [1] * many), ("field", [0] * many))
            for f, g, answer in (
                (0, 1, -6), (0, 2, -2), (0, MOST, -2),
                (1, 0, -6), (1, 1, -6), (1, 2, -6), (1, MOST, -6),
                (2, 0, -2), (2, 1, -2), (2, 2, -2), (6, 1, -2), (MOST, MOST, -2),
            ):
                self.check(begin, f, g, answer)

    def test_no_fields(self):
        self.check((("start", 2),), 0, 0, -2)

    def test_a_field_emptied(self):
        emptied = (*TWO, ("take", 1, 0, 0, 1), ("take", 1, 1, 1, 3))
        self.check(emptied, 0, 1, -6)
        self.check(emptied, 1, 0, -6)
        self.check(emptied, 1, 2, -6)
        self.assertEqual(ask(*emptied, *[(name, 0, 0, *told) for name, *told in (
            ("together",), ("cross", 0, 1), ("crossNext",))])[5:], [[0, 4, 9, 1, 3], [0, 4, 9], [1, 1]])


if __name__ == "__main__":
    unittest.main()
