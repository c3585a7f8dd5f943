"""Point 3: lack, rest and soon."""

import unittest

from tests.line import MOST, ask, ask_last, pairs


def of_field(k, counts, *calls):
    return ask(("start", k), ("field", counts), *calls)[2:]


# Each at rest.
RESTING = [
    (2, [1, 2, 1]), (2, [36, 48, 16]), (2, [49, 42, 9]), (2, [7, 0, 0]), (2, [0, 0, 1]), (2, [50, 100, 50]),
    (3, [1, 2, 2, 1, 2, 1]), (3, [1, 4, 6, 4, 12, 9]), (3, [4, 0, 12, 0, 0, 9]), (3, [0, 0, 0, 100, 0, 0]),
    (4, [1, 2, 2, 2, 1, 2, 2, 1, 2, 1]), (4, [1, 4, 6, 8, 4, 12, 16, 9, 24, 16]), (4, [0, 0, 0, 0, 1, 0, 4, 0, 0, 4]),
]
# None at rest; the last two have one mixed as expected, and one each kind with itself as often as it should be.
MOVING = [
    (2, [3, 2, 1]), (2, [1, 0, 1]), (2, [0, 1, 0]), (2, [1, 3, 1]), (2, [100, 100, 100]), (2, [99, 100, 25]),
    (3, [1, 2, 0, 3, 4, 0]), (3, [0, 1, 1, 0, 1, 0]), (3, [1, 2, 2, 1, 2, 2]), (3, [0, 0, 1, 0, 0, 0]),
    (4, [1, 0, 2, 1, 0, 3, 0, 2, 0, 1]), (4, [100] * 10), (4, [1, 2, 2, 2, 1, 2, 2, 1, 2, 2]),
    (3, [3, 0, 0, 0, 6, 0]), (4, [1, 3, 1, 2, 1, 2, 1, 1, 3, 1]),
]


class Lack(unittest.TestCase):
    def check(self, k, counts, fraction):
        self.assertEqual(of_field(k, counts, ("lack", 0)), [[0, *fraction]])

    def test_above_0(self):
        self.check(2, [3, 2, 1], (1, 4))
        self.check(2, [1, 0, 1], (1, 1))
        self.check(3, [2, 0, 0, 2, 0, 2], (1, 1))
        self.check(4, [1, 0, 2, 1, 0, 3, 0, 2, 0, 1], (3, 23))
        self.check(4, [100] * 10, (1, 5))

    def test_of_0(self):
        self.check(2, [1, 2, 1], (0, 1))
        self.check(2, [36, 48, 16], (0, 1))
        self.check(3, [1, 2, 2, 1, 2, 1], (0, 1))
        self.check(3, [3, 0, 0, 0, 6, 0], (0, 1))
        self.check(4, [1, 2, 2, 2, 1, 2, 2, 1, 2, 1], (0, 1))

    def test_below_0(self):
        self.check(2, [0, 1, 0], (-1, 1))
        self.check(2, [0, 100, 0], (-1, 1))
        self.check(2, [1, 4, 1], (-1, 3))
        self.check(3, [1, 2, 0, 3, 4, 0], (-1, 14))
        self.check(3, [0, 1, 1, 0, 1, 0], (-1, 2))
        self.check(4, [0, 1, 1, 1, 0, 1, 1, 0, 1, 0], (-1, 3))

    def test_expected_is_0(self):
        for k in (2, 3, 4):
            for place, (i, j) in enumerate(pairs(k)):
                for count in (1, 100):
                    counts = [0] * len(pairs(k))
                    counts[place] = count
                    found = of_field(k, counts, ("expected", 0), ("lack", 0))
                    self.assertEqual(found, [[0, 0, 1], [-33]] if i == j else [[0, 1, 2], [0, -1, 1]])

    def test_a_kind_that_is_not_there(self):
        self.check(3, [3, 2, 0, 1, 0, 0], (1, 4))
        self.check(4, [0, 0, 0, 0, 1, 0, 4, 0, 0, 1], (-1, 3))


class Rest(unittest.TestCase):
    def test_at_rest(self):
        for k, counts in RESTING:
            with self.subTest(k=k, counts=counts):
                self.assertEqual(of_field(k, counts, ("rest", 0)), [[1]])

    def test_not_at_rest(self):
        for k, counts in MOVING:
            with self.subTest(k=k, counts=counts):
                self.assertEqual(of_field(k, counts, ("rest", 0)), [[0]])

    def test_one_plant_more_or_fewer_ends_the_rest(self):
        for k in (2, 3, 4):
            counts = [2 if i == j else 4 for i, j in pairs(k)]
            for i, j in pairs(k):
                for name in ("put", "take"):
                    found = of_field(k, counts, ("rest", 0), (name, 0, j, i, 1), ("rest", 0))
                    self.assertEqual([found[0], found[2]], [[1], [0]])


class Soon(unittest.TestCase):
    def test_at_rest_it_is_0(self):
        for k, counts in RESTING:
            with self.subTest(k=k, counts=counts):
                self.assertEqual(of_field(k, counts, *[("soon", 0, n) for n in range(4)]), [[0]] * 4)

    def test_else_after_one_generation_and_not_within_none(self):
        for k, counts in MOVING:
            with self.subTest(k=k, counts=counts):
                self.assertEqual(of_field(k, counts, *[("soon", 0, n) for n in range(4)]), [[-33], [1], [1], [1]])

    def test_n_above_3(self):
        for k, counts in RESTING + MOVING:
            for n in (4, 5, 100, 2 ** 31, MOST):
                self.assertEqual(of_field(k, counts, ("soon", 0, n)), [[-22]])

    def test_n_above_3_goes_behind_the_field(self):
        for n in (0, 3, 4, MOST):
            self.assertEqual(ask_last(("soon", 0, n)), [-11])
            self.assertEqual(ask_last(("start", 2), ("soon", 0, n)), [-2])
            self.assertEqual(ask_last(("start", 2), ("field", [0, 0, 0]), ("soon", 0, n)), [-6])
            self.assertEqual(ask_last(("start", 2), ("field", [0, 0, 0]), ("soon", 1, n)), [-2])


class Refusals(unittest.TestCase):
    def test_refusals(self):
        for name, told in (("lack", ()), ("rest", ()), ("soon", (0,))):
            for k in (2, 3, 4):
                empty = (("start", k), ("field", [0] * len(pairs(k))))
                self.assertEqual(ask_last((name, 0, *told)), [-11])
                for f in (0, 6, MOST):
                    self.assertEqual(ask_last(("start", k), (name, f, *told)), [-2])
                for f in (1, 5, 6, MOST):
                    self.assertEqual(ask_last(*empty, (name, f, *told)), [-2])
                self.assertEqual(ask_last(*empty, (name, 0, *told)), [-6])

    def test_a_field_emptied_and_filled_again(self):
        found = of_field(
            2, [0, 1, 0], ("take", 0, 0, 1, 1), ("lack", 0), ("rest", 0), ("soon", 0, 1),
            ("put", 0, 1, 1, 1), ("lack", 0), ("rest", 0), ("soon", 0, 1),
        )
        self.assertEqual(found, [[0], [-6], [-6], [-6], [1], [-33], [1], [0]])

    def test_a_field_of_one_plant(self):
        found = of_field(2, [0, 1, 0], ("lack", 0), ("rest", 0), ("soon", 0, 0), ("soon", 0, 3))
        self.assertEqual(found, [[0, -1, 1], [0], [-33], [1]])
        found = of_field(2, [1, 0, 0], ("lack", 0), ("rest", 0), ("soon", 0, 0), ("soon", 0, 3))
        self.assertEqual(found, [[-33], [1], [0], [0]])


if __name__ == "__main__":
    unittest.main()
