"""Point 1: put and take."""

import unittest

from tests.line import MOST, ask, ask_last, pairs

BEGIN = (("start", 3), ("field", [1, 2, 0, 3, 4, 100]))
SHARES = tuple(("share", 0, i, j) for i, j in pairs(3))


class Put(unittest.TestCase):
    def test_how_many_there_are_then(self):
        found = ask(*BEGIN, ("put", 0, 0, 1, 5), ("put", 0, 0, 1, 1), ("put", 0, 0, 2, 7), ("put", 0, 2, 1, 96))
        self.assertEqual(found[2:], [[7], [8], [7], [100]])

    def test_what_is_put_counts_in_shares(self):
        for k in (2, 3, 4):
            many = len(pairs(k))
            for i, j in pairs(k):
                for told in ((i, j), (j, i)):
                    found = ask(
                        ("start", k), ("field", [1] * many), ("put", 0, *told, 3),
                        *[("share", 0, a, b) for a, b in pairs(k)],
                    )
                    self.assertEqual(found[2], [4])
                    for pair, answer in zip(pairs(k), found[3:]):
                        count = 4 if pair == (i, j) else 1
                        self.assertEqual(answer[1] * (many + 3), answer[2] * count)

    def test_only_the_field_that_is_told(self):
        found = ask(
            ("start", 2), ("field", [1, 1, 0]), ("field", [1, 1, 0]),
            ("put", 1, 1, 1, 2), ("mixed", 0), ("mixed", 1),
        )
        self.assertEqual(found[3:], [[2], [0, 1, 2], [0, 1, 4]])

    def test_100_and_101_of_a_pair(self):
        self.assertEqual(ask_last(*BEGIN, ("put", 0, 0, 2, 100)), [100])
        self.assertEqual(ask_last(*BEGIN, ("put", 0, 0, 2, 101)), [-22])
        self.assertEqual(ask_last(*BEGIN, ("put", 0, 0, 0, 99)), [100])
        self.assertEqual(ask_last(*BEGIN, ("put", 0, 0, 0, 100)), [-22])
        self.assertEqual(ask_last(*BEGIN, ("put", 0, 2, 2, 1)), [-22])
        self.assertEqual(ask_last(*BEGIN, ("put", 0, 0, 0, MOST)), [-22])

    def test_refusals(self):
        for call, answer in (
            (("put", 1, 0, 0, 1), [-2]), (("put", 6, 0, 0, 1), [-2]), (("put", MOST, 0, 0, 1), [-2]),
            (("put", 1, 3, 3, 0), [-2]), (("put", MOST, MOST, MOST, MOST), [-2]),
            (("put", 0, 3, 0, 1), [-22]), (("put", 0, 0, 3, 1), [-22]), (("put", 0, 3, 3, 1), [-22]),
            (("put", 0, MOST, 0, 1), [-22]), (("put", 0, 0, MOST, 1), [-22]),
            (("put", 0, 0, 0, 0), [-22]), (("put", 0, 2, 2, 0), [-22]),
        ):
            with self.subTest(call=call):
                before = ask(*BEGIN, *SHARES)[2:]
                found = ask(*BEGIN, call, *SHARES)[2:]
                self.assertEqual(found[0], answer)
                self.assertEqual(found[1:], before)

    def test_too_much_changes_nothing(self):
        found = ask(*BEGIN, ("put", 0, 0, 0, 100), ("put", 0, 0, 0, MOST), ("put", 0, 0, 0, 1))
        self.assertEqual(found[2:], [[-22], [-22], [2]])

    def test_kinds_that_are_there_with_other_starts(self):
        for k in (2, 3, 4):
            begin = (("start", k), ("field", [0] * len(pairs(k))))
            self.assertEqual(ask_last(*begin, ("put", 0, k - 1, 0, 1)), [1])
            self.assertEqual(ask_last(*begin, ("put", 0, k, 0, 1)), [-22])
            self.assertEqual(ask_last(*begin, ("put", 0, 0, k, 1)), [-22])


class Take(unittest.TestCase):
    def test_how_many_there_are_then(self):
        found = ask(*BEGIN, ("take", 0, 2, 2, 1), ("take", 0, 2, 2, 9), ("take", 0, 1, 0, 2), ("take", 0, 1, 2, 3))
        self.assertEqual(found[2:], [[99], [90], [0], [1]])

    def test_what_is_taken_is_gone_from_shares(self):
        for k in (2, 3, 4):
            many = len(pairs(k))
            for i, j in pairs(k):
                for told in ((i, j), (j, i)):
                    found = ask(
                        ("start", k), ("field", [5] * many), ("take", 0, *told, 3),
                        *[("share", 0, a, b) for a, b in pairs(k)],
                    )
                    self.assertEqual(found[2], [2])
                    for pair, answer in zip(pairs(k), found[3:]):
                        count = 2 if pair == (i, j) else 5
                        self.assertEqual(answer[1] * (5 * many - 3), answer[2] * count)

    def test_as_many_as_there_are_and_one_more(self):
        self.assertEqual(ask_last(*BEGIN, ("take", 0, 2, 2, 100)), [0])
        self.assertEqual(ask_last(*BEGIN, ("take", 0, 2, 2, 101)), [-12])
        self.assertEqual(ask_last(*BEGIN, ("take", 0, 0, 0, 1)), [0])
        self.assertEqual(ask_last(*BEGIN, ("take", 0, 0, 0, 2)), [-12])
        self.assertEqual(ask_last(*BEGIN, ("take", 0, 0, 2, 1)), [-12])
        self.assertEqual(ask_last(*BEGIN, ("take", 0, 0, 2, MOST)), [-12])

    def test_refusals(self):
        for call, answer in (
            (("take", 1, 0, 0, 1), [-2]), (("take", MOST, 0, 0, 1), [-2]),
            (("take", 1, 3, 3, 0), [-2]), (("take", 1, 0, 0, MOST), [-2]),
            (("take", 0, 3, 0, 1), [-22]), (("take", 0, 0, 3, 1), [-22]),
            (("take", 0, 3, 0, MOST), [-22]), (("take", 0, MOST, MOST, MOST), [-22]),
            (("take", 0, 0, 0, 0), [-22]), (("take", 0, 0, 2, 0), [-22]),
            (("take", 0, 0, 2, 1), [-12]), (("take", 0, 1, 0, 3), [-12]), (("take", 0, 1, 1, MOST), [-12]),
        ):
            with self.subTest(call=call):
                before = ask(*BEGIN, *SHARES)[2:]
                found = ask(*BEGIN, call, *SHARES)[2:]
                self.assertEqual(found[0], answer)
                self.assertEqual(found[1:], before)

    def test_too_much_changes_nothing(self):
        found = ask(*BEGIN, ("take", 0, 1, 2, 5), ("take", 0, 1, 2, MOST), ("take", 0, 1, 2, 1))
        self.assertEqual(found[2:], [[-12], [-12], [3]])

    def test_a_field_emptied_and_filled_again(self):
        found = ask(
            ("start", 2), ("field", [0, 2, 0]), ("take", 0, 1, 0, 2), ("mixed", 0), ("take", 0, 0, 1, 1),
            ("put", 0, 1, 1, 1), ("mixed", 0), ("kind", 0, 1), ("field", [1, 1, 1]),
        )
        self.assertEqual(found[2:], [[0], [-6], [-12], [1], [0, 0, 1], [0, 1, 1], [1]])

    def test_put_then_taken_is_as_before(self):
        for k in (2, 3, 4):
            begin = (("start", k), ("field", [7] * len(pairs(k))))
            for i, j in pairs(k):
                found = ask(*begin, ("put", 0, i, j, 93), ("take", 0, j, i, 93), ("share", 0, i, j))
                self.assertEqual(found[2:], [[100], [7], [0, 1, len(pairs(k))]])


if __name__ == "__main__":
    unittest.main()
