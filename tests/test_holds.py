"""What holds of every field, and the same calls answered by the model."""

import itertools
import unittest
from fractions import Fraction

from tests.line import MOST, ask, lay, pairs, take_apart
from tests.model import Model
from restsquares.fields import answers


def fields(kinds):
    """Fields with few plants of each pair, and some odd ones; each has a plant."""
    counts = (0, 1, 2, 5) if kinds == 2 else (0, 1)
    for plants in itertools.product(counts, repeat=len(pairs(kinds))):
        if any(plants):
            yield list(plants)
    yield [100] * len(pairs(kinds))
    yield [(7 * place * place + 3) % 101 for place in range(len(pairs(kinds)))]


def fractions(found):
    for answer in found:
        assert answer[0] == 0 and len(answer) == 3, answer
    return [Fraction(answer[1], answer[2]) for answer in found]


class Holds(unittest.TestCase):
    def asked(self, kinds, plants, calls):
        return fractions(ask(("start", kinds), ("field", plants), *calls)[2:])

    def test_shares_are_one_together(self):
        for k in (2, 3, 4):
            for plants in fields(k):
                self.assertEqual(sum(self.asked(k, plants, [("share", 0, i, j) for i, j in pairs(k)])), 1)
                self.assertEqual(sum(self.asked(k, plants, [("kind", 0, i) for i in range(k)])), 1)
                self.assertEqual(sum(self.asked(k, plants, [("next", 0, i, j) for i, j in pairs(k)])), 1)
                for s, n in ((30, 2), (100, 3)):
                    self.assertEqual(sum(self.asked(k, plants, [("after", 0, s, n, i, j) for i, j in pairs(k)])), 1)

    def test_after_one_generation_all_rests(self):
        for k in (2, 3, 4):
            for plants in fields(k):
                first = self.asked(k, plants, [("next", 0, i, j) for i, j in pairs(k)])
                for n in (1, 2, 3):
                    later = self.asked(k, plants, [("after", 0, 0, n, i, j) for i, j in pairs(k)])
                    self.assertEqual(later, first)

    def test_kinds_shares_stay(self):
        for k in (2, 3, 4):
            for plants in fields(k):
                before = self.asked(k, plants, [("kind", 0, i) for i in range(k)])
                for s, n in ((0, 1), (30, 1), (77, 3), (100, 2)):
                    later = self.asked(k, plants, [("after", 0, s, n, i, j) for i, j in pairs(k)])
                    for i in range(k):
                        twice = sum(share * pair.count(i) for pair, share in zip(pairs(k), later))
                        self.assertEqual(twice / 2, before[i])

    def test_by_themselves_alone_half_is_left_mixed(self):
        for k in (2, 3, 4):
            two = [(i, j) for i, j in pairs(k) if i != j]
            for plants in fields(k):
                mixed = self.asked(k, plants, [("mixed", 0)])[0]
                for n in range(4):
                    later = self.asked(k, plants, [("after", 0, 100, n, i, j) for i, j in two])
                    self.assertEqual(sum(later), mixed / 2 ** n)

    def test_expected_is_what_is_mixed_next(self):
        for k in (2, 3, 4):
            two = [(i, j) for i, j in pairs(k) if i != j]
            for plants in fields(k):
                expected = self.asked(k, plants, [("expected", 0)])[0]
                self.assertEqual(sum(self.asked(k, plants, [("next", 0, i, j) for i, j in two])), expected)

    def test_expected_is_most_when_all_kinds_are_as_many(self):
        for k in (2, 3, 4):
            for plants in fields(k):
                kinds = self.asked(k, plants, [("kind", 0, i) for i in range(k)])
                expected = self.asked(k, plants, [("expected", 0)])[0]
                most = 1 - Fraction(1, k)
                self.assertEqual(expected == most, len(set(kinds)) == 1)
                self.assertLessEqual(expected, most)

    def test_two_kinds_rest_by_the_square_of_the_mixed(self):
        for plants in fields(2):
            shares = self.asked(2, plants, [("share", 0, i, j) for i, j in pairs(2)])
            later = self.asked(2, plants, [("next", 0, i, j) for i, j in pairs(2)])
            self.assertEqual(shares == later, plants[1] ** 2 == 4 * plants[0] * plants[2])


class Numbers:
    """A fixed row of numbers that looks like no row at all."""

    def __init__(self, begin):
        self.state = begin

    def below(self, bound):
        self.state = (self.state * 6364136223846793005 + 1442695040888963407) % 2 ** 64
        return (self.state >> 33) % bound

    def one_of(self, choices):
        return choices[self.below(len(choices))]


def some_plants(numbers, kinds):
    length = numbers.one_of([len(pairs(kinds))] * 9 + [numbers.below(61)])
    bound = numbers.one_of([1, 2, 4, 101, 101, 102])
    return [numbers.below(bound) for place in range(length)]


def some_call(numbers, kinds):
    name = numbers.one_of(
        ["field", "put", "put", "take", "take", "share", "kind", "next", "after", "after", "mixed", "expected"]
        + ["start"] * (numbers.below(12) == 0)
    )
    if name == "start":
        return (name, numbers.one_of([2, 3, 4, 2, 3, 4, 0, 1, 5, MOST]))
    if name == "field":
        return (name, some_plants(numbers, kinds))
    f = numbers.one_of([0, 0, 0, 1, 1, 2, 3, 4, 5, 6, MOST])
    i = numbers.one_of([0, 1, 0, 1, 0, 1, 2, 2, 3, 4, MOST])
    j = numbers.one_of([0, 1, 0, 1, 0, 1, 2, 2, 3, 4, MOST])
    n = numbers.one_of([1, 2, 3, 50, 99, 100, 101, 0, MOST, numbers.below(100)])
    s = numbers.one_of([0, 100, 101, MOST] + [numbers.below(101)] * 8)
    generations = numbers.one_of([0, 1, 1, 2, 2, 3, 3, 4, MOST])
    told = {
        "put": (f, i, j, n), "take": (f, i, j, n), "share": (f, i, j), "kind": (f, i), "next": (f, i, j),
        "after": (f, s, generations, i, j), "mixed": (f,), "expected": (f,),
    }
    return (name, *told[name])


class AgainstTheModel(unittest.TestCase):
    def test_many_lines(self):
        seen = set()
        for begin in range(150):
            numbers = Numbers(begin)
            kinds = numbers.one_of([2, 3, 4])
            calls = [("start", kinds)] * (begin % 5 != 0)
            while len(calls) < 60:
                calls.append(some_call(numbers, kinds))
            model = Model()
            expected = [model.answer(call) for call in calls]
            found = take_apart(answers(lay(calls)))
            for call, answer, other in zip(calls, found, expected, strict=True):
                self.assertEqual(answer, other, (begin, call))
                seen.add((call[0], min(answer[0], 0)))
        self.assertEqual(seen, EVERY_ANSWER)


SHARES = ("share", "kind", "next", "after", "mixed", "expected")
EVERY_ANSWER = (
    {("start", 0), ("start", -22)}
    | {("field", number) for number in (0, -11, -22, -28)}
    | {("put", number) for number in (0, -11, -2, -22)}
    | {("take", number) for number in (0, -11, -2, -22, -12)}
    | {(name, number) for name in SHARES for number in (0, -11, -2, -6)}
    | {(name, -22) for name in ("share", "kind", "next", "after")}
)


if __name__ == "__main__":
    unittest.main()
