"""What holds of every field, and of two."""

import itertools
import unittest
from fractions import Fraction

from tests.line import ask, pairs


def fields(kinds):
    """Fields with few plants of each pair, and some odd ones; each has a plant."""
    counts = (0, 1, 2, 5) if kinds == 2 else (0, 1)
    for plants in itertools.product(counts, repeat=len(pairs(kinds))):
        if any(plants):
            yield list(plants)
    yield [100] * len(pairs(kinds))
    yield [(7 * place * place + 3) % 101 for place in range(len(pairs(kinds)))]


def resting(kinds):
    """Fields at rest: each pair as often as the product of its kinds' parts asks."""
    parts = (0, 1, 2, 4, 7) if kinds == 2 else (0, 1, 2, 3) if kinds == 3 else (0, 1, 2)
    for of_kinds in itertools.product(parts, repeat=kinds):
        if any(of_kinds):
            yield [of_kinds[i] * of_kinds[j] * (1 if i == j else 2) for i, j in pairs(kinds)]


def few(kinds):
    """Some of the fields, so few that each can be asked for with each other one."""
    found = list(fields(kinds))
    return found[::len(found) // 25] + found[-2:]


def fractions(found):
    for answer in found:
        assert answer[0] == 0 and len(answer) == 3, answer
    return [Fraction(answer[1], answer[2]) for answer in found]


class Holds(unittest.TestCase):
    def asked(self, kinds, plants, calls):
        return fractions(ask(("start", kinds), ("field", plants), *calls)[2:])

    def test_shares_are_one_together(self):
        for k in (2, 3, 4):
            for plants in fields(k):
                self.assertEqual(sum(self.asked(k, plants, [("share", 0, i, j) for i, j in pairs(k)])), 1)
                self.assertEqual(sum(self.asked(k, plants, [("kind", 0, i) for i in range(k)])), 1)
                self.assertEqual(sum(self.asked(k, plants, [("next", 0, i, j) for i, j in pairs(k)])), 1)
                for s, n in ((30, 2), (100, 3)):
                    self.assertEqual(sum(self.asked(k, plants, [("after", 0, s, n, i, j) for i, j in pairs(k)])), 1)

    def test_after_one_generation_all_rests(self):
        for k in (2, 3, 4):
            for plants in fields(k):
                first = self.asked(k, plants, [("next", 0, i, j) for i, j in pairs(k)])
                for n in (1, 2, 3):
                    later = self.asked(k, plants, [("after", 0, 0, n, i, j) for i, j in pairs(k)])
                    self.assertEqual(later, first)

    def test_kinds_shares_stay(self):
        for k in (2, 3, 4):
            for plants in fields(k):
                before = self.asked(k, plants, [("kind", 0, i) for i in range(k)])
                for s, n in ((0, 1), (30, 1), (77, 3), (100, 2)):
                    later = self.asked(k, plants, [("after", 0, s, n, i, j) for i, j in pairs(k)])
                    for i in range(k):
                        twice = sum(share * pair.count(i) for pair, share in zip(pairs(k), later))
                        self.assertEqual(twice / 2, before[i])

    def test_by_themselves_alone_half_is_left_mixed(self):
        for k in (2, 3, 4):
            two = [(i, j) for i, j in pairs(k) if i != j]
            for plants in fields(k):
                mixed = self.asked(k, plants, [("mixed", 0)])[0]
                for n in range(4):
                    later = self.asked(k, plants, [("after", 0, 100, n, i, j) for i, j in two])
                    self.assertEqual(sum(later), mixed / 2 ** n)

    def test_expected_is_what_is_mixed_next(self):
        for k in (2, 3, 4):
            two = [(i, j) for i, j in pairs(k) if i != j]
            for plants in fields(k):
                expected = self.asked(k, plants, [("expected", 0)])[0]
                self.assertEqual(sum(self.asked(k, plants, [("next", 0, i, j) for i, j in two])), expected)

    def test_expected_is_most_when_all_kinds_are_as_many(self):
        for k in (2, 3, 4):
            for plants in fields(k):
                kinds = self.asked(k, plants, [("kind", 0, i) for i in range(k)])
                expected = self.asked(k, plants, [("expected", 0)])[0]
                most = 1 - Fraction(1, k)
                self.assertEqual(expected == most, len(set(kinds)) == 1)
                self.assertLessEqual(expected, most)

    def test_two_kinds_rest_by_the_square_of_the_mixed(self):
        for plants in fields(2):
            shares = self.asked(2, plants, [("share", 0, i, j) for i, j in pairs(2)])
            later = self.asked(2, plants, [("next", 0, i, j) for i, j in pairs(2)])
            self.assertEqual(shares == later, plants[1] ** 2 == 4 * plants[0] * plants[2])
            rests = int(plants[1] ** 2 == 4 * plants[0] * plants[2])
            self.assertEqual(ask(("start", 2), ("field", plants), ("rest", 0))[2], [rests])

    def test_it_rests_exactly_when_next_is_as_it_is(self):
        for k in (2, 3, 4):
            for plants in itertools.chain(fields(k), resting(k)):
                shares = self.asked(k, plants, [("share", 0, i, j) for i, j in pairs(k)])
                later = self.asked(k, plants, [("next", 0, i, j) for i, j in pairs(k)])
                found = ask(("start", k), ("field", plants), ("rest", 0), *[("soon", 0, n) for n in range(4)])[2:]
                rests = [[1], [0], [0], [0], [0]]
                moves = [[0], [-33], [1], [1], [1]]
                self.assertEqual(found, rests if shares == later else moves)

    def test_fields_at_rest_rest(self):
        for k in (2, 3, 4):
            for plants in resting(k):
                self.assertEqual(ask(("start", k), ("field", plants), ("rest", 0), ("soon", 0, 0))[2:], [[1], [0]])

    def test_lack_is_one_less_mixed_by_expected(self):
        for k in (2, 3, 4):
            for plants in fields(k):
                mixed, expected = self.asked(k, plants, [("mixed", 0), ("expected", 0)])
                if expected > 0:
                    self.assertEqual(self.asked(k, plants, [("lack", 0)]), [1 - mixed / expected])
                else:
                    self.assertEqual(ask(("start", k), ("field", plants), ("lack", 0))[2], [-33])

    def test_half_is_what_is_left_mixed_by_themselves_alone(self):
        for plants in fields(2):
            mixed = self.asked(2, plants, [("mixed", 0)])[0]
            left = self.asked(2, plants, [("half", 100, n) for n in range(4)])
            later = self.asked(2, plants, [("after", 0, 100, n, 0, 1) for n in range(4)])
            self.assertEqual(later, [mixed * part for part in left])


class TwoFieldsHold(unittest.TestCase):
    def asked(self, kinds, one, other, calls):
        return ask(("start", kinds), ("field", one), ("field", other), *calls)[3:]

    def alike(self, kinds, one, other):
        """Whether the kinds' shares are alike."""
        found = self.asked(kinds, one, other, [("kind", f, i) for f in (0, 1) for i in range(kinds)])
        return found[:kinds] == found[kinds:]

    def test_at_rest_and_thrown_together_no_more_mixed_than_expected(self):
        seen = set()
        for k, step in ((2, 1), (3, 3), (4, 4)):
            some = list(resting(k))[::step]
            some.append([3 * count for count in some[1]])
            for one, other in itertools.product(some, some):
                answer = self.asked(k, one, other, [("together", 0, 1)])[0]
                expected = Fraction(answer[1], answer[2])
                mixed = Fraction(answer[3], answer[4])
                self.assertLessEqual(mixed, expected)
                self.assertEqual(mixed == expected, self.alike(k, one, other))
                seen.add((k, mixed == expected, one == other))
        for k in (2, 3, 4):
            self.assertLessEqual({(k, True, True), (k, False, False), (k, True, False)}, seen)

    def test_thrown_together_is_one_field_of_all_the_plants(self):
        for k in (2, 3, 4):
            for one, other in itertools.product(few(k), few(k)):
                both = [a + b for a, b in zip(one, other)]
                if max(both) > 100:
                    continue
                answer = self.asked(k, one, other, [("together", 0, 1)])[0]
                found = ask(("start", k), ("field", both), ("expected", 0), ("mixed", 0))[2:]
                self.assertEqual(answer, found[0] + found[1][1:])

    def test_children_of_two_fields_are_mixed_as_much_as_expected_at_least(self):
        for k in (2, 3, 4):
            for one, other in itertools.product(few(k), few(k)):
                children = fractions(self.asked(k, one, other, [("cross", 0, 1, i, j) for i, j in pairs(k)]))
                self.assertEqual(sum(children), 1)
                mixed = sum(share for (i, j), share in zip(pairs(k), children) if i != j)
                of_kinds = [
                    sum(share * pair.count(i) for pair, share in zip(pairs(k), children)) / 2 for i in range(k)
                ]
                expected = 1 - sum(share * share for share in of_kinds)
                self.assertGreaterEqual(mixed, expected)
                self.assertEqual(mixed == expected, self.alike(k, one, other))

    def test_children_of_two_fields_rest_one_generation_later(self):
        for k in (2, 3, 4):
            for one, other in itertools.product(few(k), few(k)):
                found = self.asked(k, one, other, [("crossNext", 0, 1), ("crossNext", 1, 0)])
                answer = [int(self.alike(k, one, other)), 1]
                self.assertEqual(found, [answer, answer])

    def test_she_or_he_of_either_field_is_the_same(self):
        for k in (2, 3, 4):
            for one, other in itertools.product(few(k)[::4], few(k)):
                calls = [[("cross", f, g, i, j) for i, j in pairs(k)] for f, g in ((0, 1), (1, 0))]
                self.assertEqual(self.asked(k, one, other, calls[0]), self.asked(k, one, other, calls[1]))


if __name__ == "__main__":
    unittest.main()
