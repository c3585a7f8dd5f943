"""Point 2: share, kind, next; and -2, -6 and -22 of every call that asks for shares of a field."""

import unittest

from tests.line import MOST, ask, ask_last, pairs

TWO = (("start", 2), ("field", [3, 2, 1]))
THREE = (("start", 3), ("field", [1, 2, 0, 3, 4, 0]))
FOUR = (("start", 4), ("field", [1, 0, 2, 1, 0, 3, 0, 2, 0, 1]))

# What asks for shares; f, then numbers that would do with a field of two kinds.
ASKING = [
    ("share", 0, 0, 1), ("kind", 0, 1), ("next", 0, 0, 1), ("after", 0, 50, 2, 0, 1),
    ("mixed", 0), ("expected", 0), ("lack", 0), ("rest", 0), ("soon", 0, 3), ("together", 0, 0),
    ("cross", 0, 0, 0, 1), ("crossNext", 0, 0), ("rarest", 0),
]
# Where the kinds stand in such a call, if any.
KINDS_AT = {"share": (2, 3), "kind": (2,), "next": (2, 3), "after": (4, 5), "cross": (3, 4)}


def put_in(call, place, number):
    return call[:place] + (number,) + call[place + 1:]


class Share(unittest.TestCase):
    def check(self, begin, kinds, fractions):
        for (i, j), fraction in zip(pairs(kinds), fractions):
            self.assertEqual(ask_last(*begin, ("share", 0, i, j)), [0, *fraction])
            self.assertEqual(ask_last(*begin, ("share", 0, j, i)), [0, *fraction])

    def test_two_kinds(self):
        self.check(TWO, 2, [(1, 2), (1, 3), (1, 6)])

    def test_three_kinds(self):
        self.check(THREE, 3, [(1, 10), (1, 5), (0, 1), (3, 10), (2, 5), (0, 1)])

    def test_four_kinds(self):
        tenths = [(1, 10), (0, 1), (1, 5), (1, 10), (0, 1), (3, 10), (0, 1), (1, 5), (0, 1), (1, 10)]
        self.check(FOUR, 4, tenths)

    def test_a_full_field(self):
        self.assertEqual(ask_last(("start", 4), ("field", [100] * 10), ("share", 0, 3, 2)), [0, 1, 10])

    def test_no_common_divisor(self):
        self.assertEqual(ask_last(("start", 2), ("field", [100, 60, 20]), ("share", 0, 1, 0)), [0, 1, 3])
        self.assertEqual(ask_last(("start", 2), ("field", [97, 89, 83]), ("share", 0, 1, 0)), [0, 89, 269])

    def test_each_field_its_own(self):
        found = ask(*TWO, ("field", [0, 1, 0]), ("share", 0, 0, 1), ("share", 1, 0, 1), ("share", 2, 0, 1))
        self.assertEqual(found[2:], [[1], [0, 1, 3], [0, 1, 1], [-2]])


class Kind(unittest.TestCase):
    def check(self, begin, fractions):
        for i, fraction in enumerate(fractions):
            self.assertEqual(ask_last(*begin, ("kind", 0, i)), [0, *fraction])

    def test_two_kinds(self):
        self.check(TWO, [(2, 3), (1, 3)])

    def test_three_kinds(self):
        self.check(THREE, [(1, 5), (3, 5), (1, 5)])

    def test_four_kinds(self):
        self.check(FOUR, [(1, 4), (3, 20), (9, 20), (3, 20)])


class Next(unittest.TestCase):
    def check(self, begin, kinds, fractions):
        for (i, j), fraction in zip(pairs(kinds), fractions):
            self.assertEqual(ask_last(*begin, ("next", 0, i, j)), [0, *fraction])
            self.assertEqual(ask_last(*begin, ("next", 0, j, i)), [0, *fraction])

    def test_two_kinds(self):
        self.check(TWO, 2, [(4, 9), (4, 9), (1, 9)])

    def test_three_kinds(self):
        self.check(THREE, 3, [(1, 25), (6, 25), (2, 25), (9, 25), (6, 25), (1, 25)])

    def test_four_kinds(self):
        fractions = [
            (1, 16), (3, 40), (9, 40), (3, 40), (9, 400), (27, 200), (9, 200), (81, 400), (27, 200), (9, 400),
        ]
        self.check(FOUR, 4, fractions)

    def test_at_rest_it_is_as_it_was(self):
        self.check((("start", 2), ("field", [1, 2, 1])), 2, [(1, 4), (1, 2), (1, 4)])
        self.check((("start", 2), ("field", [36, 48, 16])), 2, [(9, 25), (12, 25), (4, 25)])


class Corners(unittest.TestCase):
    def test_a_kind_that_is_not_there(self):
        begin = (("start", 3), ("field", [1, 2, 0, 1, 0, 0]))
        found = ask(
            *begin, ("kind", 0, 2), ("share", 0, 2, 2), ("share", 0, 1, 2), ("next", 0, 2, 2), ("next", 0, 2, 0),
            ("after", 0, 30, 3, 2, 2), ("after", 0, 30, 3, 1, 2), ("kind", 0, 0), ("mixed", 0), ("expected", 0),
        )
        self.assertEqual(found[2:], [[0, 0, 1]] * 7 + [[0, 1, 2]] * 3)

    def test_a_field_of_one_plant_of_two_kinds(self):
        found = ask(
            ("start", 2), ("field", [0, 1, 0]), ("share", 0, 0, 1), ("share", 0, 0, 0), ("kind", 0, 0), ("kind", 0, 1),
            ("next", 0, 0, 0), ("next", 0, 0, 1), ("next", 0, 1, 1), ("after", 0, 100, 1, 0, 1), ("mixed", 0),
            ("expected", 0),
        )
        halves = [[0, 1, 2], [0, 1, 2]]
        quarters = [[0, 1, 4], [0, 1, 2], [0, 1, 4]]
        self.assertEqual(found[2:], [[0, 1, 1], [0, 0, 1], *halves, *quarters, [0, 1, 2], [0, 1, 1], [0, 1, 2]])

    def test_all_of_one_kind(self):
        for k in (2, 3, 4):
            for count in (1, 7, 100):
                counts = [0] * len(pairs(k))
                counts[-1] = count
                begin = (("start", k), ("field", counts))
                last = k - 1
                for call in (("share", 0, last, last), ("kind", 0, last), ("next", 0, last, last)):
                    self.assertEqual(ask_last(*begin, call), [0, 1, 1])
                for call in (("share", 0, 0, last), ("kind", 0, 0), ("next", 0, 0, last), ("mixed", 0), ("expected", 0)):
                    self.assertEqual(ask_last(*begin, call), [0, 0, 1])
                for s in (0, 50, 100):
                    self.assertEqual(ask_last(*begin, ("after", 0, s, 3, last, last)), [0, 1, 1])
                    self.assertEqual(ask_last(*begin, ("after", 0, s, 3, 0, last)), [0, 0, 1])


class Refusals(unittest.TestCase):
    def test_no_such_field(self):
        for call in ASKING:
            for f in (1, 5, 6, MOST):
                with self.subTest(call=call, f=f):
                    self.assertEqual(ask_last(*TWO, put_in(call, 1, f)), [-2])
            self.assertEqual(ask_last(("start", 2), call), [-2])

    def test_no_plants(self):
        for call in ASKING:
            with self.subTest(call=call):
                self.assertEqual(ask_last(("start", 2), ("field", [0, 0, 0]), call), [-6])
                emptied = (("start", 2), ("field", [1, 0, 2]), ("take", 0, 0, 0, 1), ("take", 0, 1, 1, 2))
                self.assertEqual(ask_last(*emptied, call), [-6])

    def test_no_such_kind(self):
        for k, begin in ((2, TWO), (3, THREE), (4, FOUR)):
            for call in ASKING:
                for place in KINDS_AT.get(call[0], ()):
                    for i in (k, k + 1, 2 ** 31, MOST):
                        with self.subTest(call=call, place=place, i=i):
                            self.assertEqual(ask_last(*begin, put_in(call, place, i)), [-22])
                    self.assertEqual(ask_last(*begin, put_in(call, place, k - 1))[0], 0)

    def test_no_such_field_goes_first_and_no_plants_second(self):
        for call in ASKING:
            worst = (call[0],) + (MOST,) * (len(call) - 1)
            with self.subTest(call=call):
                self.assertEqual(ask_last(*TWO, worst), [-2])
                self.assertEqual(ask_last(("start", 2), ("field", [0, 0, 0]), put_in(worst, 1, 0)), [-6])
                self.assertEqual(ask_last(("start", 2), ("field", [0, 0, 0]), put_in(worst, 1, 1)), [-2])

    def test_asking_changes_nothing(self):
        refused = [("share", 0, 2, 0), ("kind", 0, MOST), ("next", 0, 0, 2), ("after", 0, 101, 4, 0, 0), ("mixed", 9)]
        before = ask(*TWO, *ASKING)[2:]
        self.assertEqual(ask(*TWO, *ASKING, *refused, *ASKING)[-len(ASKING):], before)


if __name__ == "__main__":
    unittest.main()
