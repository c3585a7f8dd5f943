"""Point 5: rarest, half and state; and size, of point 1."""

import unittest

from tests.line import MOST, ask, ask_last, pairs


class Rarest(unittest.TestCase):
    def check(self, k, counts, i, fraction):
        self.assertEqual(ask_last(("start", k), ("field", counts), ("rarest", 0)), [i, *fraction])

    def test_two_kinds(self):
        self.check(2, [3, 2, 1], 1, (1, 3))
        self.check(2, [1, 2, 3], 0, (1, 3))

    def test_three_kinds(self):
        self.check(3, [1, 0, 0, 2, 0, 3], 0, (1, 6))
        self.check(3, [2, 1, 0, 1, 0, 3], 1, (3, 14))
        self.check(3, [3, 0, 0, 2, 1, 0], 2, (1, 12))

    def test_four_kinds(self):
        self.check(4, [9, 8, 7, 6, 5, 4, 3, 2, 1, 0], 3, (1, 9))
        self.check(4, [5, 0, 0, 0, 5, 1, 0, 0, 0, 5], 2, (1, 32))

    def test_the_first_of_several(self):
        self.check(2, [1, 0, 1], 0, (1, 2))
        self.check(2, [0, 1, 0], 0, (1, 2))
        self.check(3, [1, 2, 0, 3, 4, 0], 0, (1, 5))
        self.check(3, [5, 0, 0, 0, 1, 0], 1, (1, 12))
        self.check(4, [1, 0, 2, 1, 0, 3, 0, 2, 0, 1], 1, (3, 20))
        self.check(4, [100] * 10, 0, (1, 4))
        self.check(4, [3, 0, 0, 0, 3, 0, 0, 1, 0, 1], 2, (1, 8))

    def test_a_kind_that_is_not_there(self):
        self.check(3, [1, 2, 0, 1, 0, 0], 2, (0, 1))
        self.check(3, [1, 0, 2, 0, 0, 1], 1, (0, 1))
        self.check(4, [0, 0, 0, 0, 1, 1, 1, 1, 1, 1], 0, (0, 1))
        self.check(4, [0, 1, 0, 0, 0, 0, 0, 0, 0, 0], 2, (0, 1))

    def test_all_of_one_kind(self):
        for k in (2, 3, 4):
            for i in range(k):
                for count in (1, 100):
                    counts = [count if pair == (i, i) else 0 for pair in pairs(k)]
                    self.check(k, counts, 1 if i == 0 else 0, (0, 1))

    def test_refusals(self):
        self.assertEqual(ask_last(("rarest", 0)), [-11])
        for k in (2, 3, 4):
            empty = (("start", k), ("field", [0] * len(pairs(k))))
            self.assertEqual(ask_last(("start", k), ("rarest", 0)), [-2])
            self.assertEqual(ask_last(*empty, ("rarest", 0)), [-6])
            for f in (1, 6, MOST):
                self.assertEqual(ask_last(*empty, ("rarest", f)), [-2])
        emptied = ask(("start", 2), ("field", [0, 1, 0]), ("take", 0, 1, 0, 1), ("rarest", 0))
        self.assertEqual(emptied[-1], [-6])


class Size(unittest.TestCase):
    def test_how_many_plants(self):
        for k, counts, many in (
            (2, [3, 2, 1], 6), (2, [0, 1, 0], 1), (3, [1, 2, 0, 3, 4, 0], 10), (3, [100] * 6, 600),
            (4, [1, 0, 2, 1, 0, 3, 0, 2, 0, 1], 10), (4, [100] * 10, 1000),
        ):
            self.assertEqual(ask_last(("start", k), ("field", counts), ("size", 0)), [many])

    def test_no_plants_are_0(self):
        for k in (2, 3, 4):
            self.assertEqual(ask_last(("start", k), ("field", [0] * len(pairs(k))), ("size", 0)), [0])
        emptied = ask(("start", 2), ("field", [0, 2, 0]), ("size", 0), ("take", 0, 0, 1, 2), ("size", 0))
        self.assertEqual(emptied[2:], [[2], [0], [0]])

    def test_each_field_its_own_and_as_it_is_then(self):
        found = ask(
            ("start", 2), ("field", [3, 2, 1]), ("field", [0, 0, 9]), ("size", 0), ("size", 1), ("put", 1, 0, 1, 5),
            ("size", 0), ("size", 1), ("take", 0, 0, 0, 3), ("size", 0), ("take", 0, 0, 0, 1), ("size", 0),
        )
        self.assertEqual(found[3:], [[6], [9], [5], [6], [14], [0], [3], [-12], [3]])

    def test_refusals(self):
        self.assertEqual(ask_last(("size", 0)), [-11])
        self.assertEqual(ask_last(("start", 2), ("size", 0)), [-2])
        six = (("start", 2), *[("field", [1, 1, 1])] * 6)
        self.assertEqual(ask_last(*six, ("size", 5)), [3])
        for f in (6, 7, 2 ** 31, MOST):
            self.assertEqual(ask_last(*six, ("size", f)), [-2])


class Half(unittest.TestCase):
    def check(self, s, n, *answer):
        for k in (2, 3, 4):
            self.assertEqual(ask_last(("start", k), ("half", s, n)), list(answer))

    def test_fractions(self):
        self.check(50, 1, 0, 3, 4)
        self.check(50, 2, 0, 9, 16)
        self.check(20, 3, 0, 729, 1000)
        self.check(1, 1, 0, 199, 200)
        self.check(99, 1, 0, 101, 200)
        self.check(40, 10, 0, 4 ** 10, 5 ** 10)

    def test_s_of_0_and_100(self):
        for n in range(11):
            self.check(0, n, 0, 1, 1)
            self.check(100, n, 0, 1, 2 ** n)

    def test_n_of_0_and_10(self):
        for s in (0, 1, 50, 99, 100):
            self.check(s, 0, 0, 1, 1)
        self.check(1, 10, 0, 199 ** 10, 200 ** 10)
        self.check(99, 10, 0, 101 ** 10, 200 ** 10)
        self.check(50, 10, 0, 3 ** 10, 4 ** 10)

    def test_refusals(self):
        for s, n in ((101, 0), (101, 10), (MOST, 1), (200, 1), (0, 11), (100, 11), (50, MOST), (101, 11), (MOST, MOST)):
            self.check(s, n, -22)
            self.assertEqual(ask_last(("half", s, n)), [-11])
        self.assertEqual(ask_last(("half", 50, 1)), [-11])

    def test_fields_are_no_matter(self):
        for counts in ([0, 0, 0], [1, 2, 1]):
            self.assertEqual(ask_last(("start", 2), ("field", counts), ("half", 50, 2)), [0, 9, 16])


class State(unittest.TestCase):
    def test_kinds_and_fields(self):
        for k in (2, 3, 4):
            field = ("field", [1] * len(pairs(k)))
            for many in range(7):
                self.assertEqual(ask_last(("start", k), *[field] * many, ("state",)), [k, many])

    def test_what_is_refused_does_not_count(self):
        field = ("field", [1, 2, 1])
        self.assertEqual(ask_last(("start", 2), *[field] * 9, ("state",)), [2, 6])
        self.assertEqual(ask_last(("start", 2), field, ("field", [101, 0, 0]), ("field", []), ("state",)), [2, 1])
        for k in (0, 1, 5, MOST):
            self.assertEqual(ask_last(("start", 2), field, ("start", k), ("state",)), [2, 1])

    def test_a_start_begins_anew(self):
        found = ask(("start", 2), ("field", [1, 2, 1]), ("state",), ("start", 4), ("state",), ("start", 3), ("state",))
        self.assertEqual([found[2], found[4], found[6]], [[2, 1], [4, 0], [3, 0]])

    def test_a_field_emptied_counts(self):
        self.assertEqual(ask_last(("start", 2), ("field", [1, 0, 0]), ("take", 0, 0, 0, 1), ("state",)), [2, 1])
        self.assertEqual(ask_last(("start", 2), ("field", [0, 0, 0]), ("state",)), [2, 1])

    def test_not_started(self):
        self.assertEqual(ask_last(("state",)), [-11])
        self.assertEqual(ask(("start", 5), ("state",), ("start", 3), ("state",)), [[-22], [-11], [0], [3, 0]])


if __name__ == "__main__":
    unittest.main()
