"""Whole lines of calls: the same as the model answers, and nothing changed by what only asks."""

import unittest

from restsquares.fields import answers
from tests.line import MOST, NUMBERS, ask, lay, pairs, take_apart
from tests.model import Model


class Numbers:
    """A fixed row of numbers that looks like no row at all."""

    def __init__(self, begin):
        self.state = begin

    def below(self, bound):
        self.state = (self.state * 6364136223846793005 + 1442695040888963407) % 2 ** 64
        return (self.state >> 33) % bound

    def one_of(self, choices):
        return choices[self.below(len(choices))]

    def in_any_order(self, choices):
        left = list(choices)
        return [left.pop(self.below(len(left))) for place in range(len(left))]


def some_plants(numbers, kinds):
    length = numbers.one_of([len(pairs(kinds))] * 9 + [numbers.below(61)])
    bound = numbers.one_of([1, 2, 4, 101, 101, 102])
    if bound == 4:
        # At rest, if it is as long as it should be.
        parts = [numbers.below(4) for i in range(kinds)]
        return [parts[i] * parts[j] * (1 if i == j else 2) for i, j in pairs(kinds)][:length]
    return [numbers.below(bound) for place in range(length)]


def some_call(numbers, kinds, name):
    if name == "start":
        return (name, numbers.one_of([kinds, 2, 3, 4, 0, 1, 5, MOST]))
    if name == "field":
        return (name, some_plants(numbers, kinds))
    f = numbers.one_of([0, 0, 0, 1, 1, 2, 3, 4, 5, 6, MOST])
    g = numbers.one_of([0, 0, 0, 1, 1, 2, 3, 4, 5, 6, MOST])
    i = numbers.one_of([0, 1, 0, 1, 0, 1, 2, 2, 3, 4, MOST])
    j = numbers.one_of([0, 1, 0, 1, 0, 1, 2, 2, 3, 4, MOST])
    n = numbers.one_of([1, 2, 3, 50, 99, 100, 101, 0, MOST, numbers.below(100)])
    s = numbers.one_of([0, 100, 101, MOST] + [numbers.below(101)] * 8)
    generations = numbers.one_of([0, 1, 1, 2, 2, 3, 3, 4, MOST])
    times = numbers.one_of([0, 10, 11, MOST] + [numbers.below(11)] * 8)
    told = {
        "put": (f, i, j, n), "take": (f, i, j, n), "share": (f, i, j), "kind": (f, i), "next": (f, i, j),
        "after": (f, s, generations, i, j), "soon": (f, generations), "together": (f, g), "cross": (f, g, i, j),
        "crossNext": (f, g), "half": (s, times), "state": (),
    }
    return (name, *told.get(name, (f,)))


# A start or six fields come rarely, and few plants are put or taken: else nothing else would be seen.
NAMES = [name for name in NUMBERS if name != "start"] + ["field", "put", "take", "take"]


def some_line(begin):
    """200 calls, each of the twenty among them."""
    numbers = Numbers(begin)
    kinds = numbers.one_of([2, 3, 4])
    names = ["start"] * (begin % 5 != 0)
    while len(names) < 90:
        names.append(numbers.one_of(NAMES))
    names += numbers.in_any_order(NUMBERS)
    while len(names) < 200:
        names.append(numbers.one_of(NAMES))
    calls = [some_call(numbers, kinds, name) for name in names]
    return [("start", kinds)] + calls[1:] if begin % 5 != 0 else calls


class AgainstTheModel(unittest.TestCase):
    def test_lines_of_two_hundred_calls(self):
        seen = set()
        for begin in range(100):
            calls = some_line(begin)
            self.assertEqual(len(calls), 200)
            self.assertEqual({call[0] for call in calls}, set(NUMBERS))
            model = Model()
            expected = [model.answer(call) for call in calls]
            found = take_apart(answers(lay(calls)))
            for call, answer, other in zip(calls, found, expected, strict=True):
                self.assertEqual(answer, other, (begin, call))
                seen.add((call[0], min(answer[0], 0)))
        self.assertEqual(seen, EVERY_ANSWER)

    def test_a_line_stays_as_it_was_and_is_answered_the_same_again(self):
        for begin in range(100):
            laid = lay(some_line(begin))
            before = list(laid)
            first = answers(laid)
            self.assertEqual(laid, before)
            self.assertEqual(answers(laid), first)
            self.assertEqual(laid, before)
            self.assertEqual({type(number) for number in first}, {int})

    def test_the_line_in_any_order(self):
        for begin in range(100):
            numbers = Numbers(begin)
            calls = numbers.in_any_order(some_line(begin))
            model = Model()
            self.assertEqual(take_apart(answers(lay(calls))), [model.answer(call) for call in calls])


OF_FIELDS = (
    "share", "kind", "next", "after", "mixed", "expected", "lack", "rest", "soon", "together", "cross", "crossNext",
    "rarest",
)
EVERY_ANSWER = (
    {("start", 0), ("start", -22)}
    | {(name, number) for name in NUMBERS if name != "start" for number in (0, -11)}
    | {("field", -22), ("field", -28), ("put", -2), ("put", -22), ("take", -2), ("take", -22), ("take", -12)}
    | {(name, number) for name in OF_FIELDS for number in (-2, -6)}
    | {(name, -22) for name in ("share", "kind", "next", "after", "soon", "cross", "half")}
    | {("lack", -33), ("soon", -33), ("size", -2)}
)


class NothingIsChanged(unittest.TestCase):
    def probes(self, kinds):
        found = [("state",), ("half", 50, 3)]
        for f in range(4):
            found += [(name, f) for name in ("size", "mixed", "expected", "lack", "rest", "rarest")]
            found += [("soon", f, 3), ("crossNext", f, 0), ("together", 1, f), ("cross", 1, f, 0, 1), ("kind", f, 1)]
            found += [("share", f, i, j) for i, j in pairs(kinds)]
            found += [("next", f, 0, 1), ("after", f, 30, 2, 0, 1)]
        return found

    def asking(self, kinds):
        for f in (0, 1, 2, 3, MOST):
            for name in ("lack", "rest", "rarest", "size"):
                yield (name, f)
            for n in (0, 3, 4):
                yield ("soon", f, n)
            for g in (0, 1, 2, 3, MOST):
                yield ("together", f, g)
                yield ("crossNext", f, g)
                yield ("cross", f, g, kinds - 1, 0)
                yield ("cross", f, g, kinds, 0)
        yield from (("half", 0, 0), ("half", 100, 10), ("half", 101, 0), ("half", 0, 11), ("state",))

    def test_what_is_asked_behind_a_call_is_as_before(self):
        for k in (2, 3, 4):
            many = len(pairs(k))
            begin = (
                ("start", k), ("field", [n % 3 + 1 for n in range(many)]), ("field", [n * 7 % 5 for n in range(many)]),
                ("field", [0] * many),
            )
            changes = (("put", 0, 0, 1, 9), ("take", 1, 1, 0, 1), ("field", [1] * many), ("state",))
            before = ask(*begin, *self.probes(k), *changes)[len(begin):]
            for call in self.asking(k):
                with self.subTest(k=k, call=call):
                    self.assertEqual(ask(*begin, call, *self.probes(k), *changes)[len(begin) + 1:], before)


if __name__ == "__main__":
    unittest.main()
