"""Point 1: start and field; and -11 before a start."""

import unittest

from tests.line import MOST, ask, ask_last, pairs

ANY_OTHER_CALL = [
    ("field", [1, 2, 1]), ("put", 0, 0, 0, 1), ("take", 0, 0, 0, 1), ("share", 0, 0, 0),
    ("kind", 0, 0), ("next", 0, 0, 0), ("after", 0, 0, 0, 0, 0), ("mixed", 0), ("expected", 0),
    ("lack", 0), ("rest", 0), ("soon", 0, 0), ("together", 0, 0), ("cross", 0, 0, 0, 0),
    ("crossNext", 0, 0), ("rarest", 0), ("size", 0), ("half", 0, 0), ("state",),
]


class BeforeAStart(unittest.TestCase):
    def test_every_other_call_is_refused(self):
        for call in ANY_OTHER_CALL:
            with self.subTest(call=call):
                self.assertEqual(ask(call), [[-11]])

    def test_not_started_goes_before_all_other_refusals(self):
        found = ask(
            ("field", []), ("field", [MOST] * 60), ("put", MOST, MOST, MOST, 0),
            ("take", MOST, MOST, MOST, 0), ("share", MOST, MOST, MOST), ("kind", MOST, MOST),
            ("next", MOST, MOST, MOST), ("after", MOST, MOST, MOST, MOST, MOST),
            ("mixed", MOST), ("expected", MOST), ("lack", MOST), ("rest", MOST), ("soon", MOST, MOST),
            ("together", MOST, MOST), ("cross", MOST, MOST, MOST, MOST), ("crossNext", MOST, MOST),
            ("rarest", MOST), ("size", MOST), ("half", MOST, MOST), ("half", 101, 11), ("state",),
        )
        self.assertEqual(found, [[-11]] * 21)

    def test_a_refused_start_starts_nothing(self):
        for k in (0, 1, 5, MOST):
            for call in ANY_OTHER_CALL:
                with self.subTest(k=k, call=call):
                    self.assertEqual(ask(("start", k), call), [[-22], [-11]])

    def test_a_start_behind_refused_calls_is_taken(self):
        found = ask(("field", [1, 2, 1]), ("start", 1), ("start", 2), ("field", [1, 2, 1]))
        self.assertEqual(found, [[-11], [-22], [0], [0]])

    def test_refused_field_ahead_of_a_start_leaves_no_field(self):
        self.assertEqual(ask_last(("field", [1, 2, 1]), ("start", 2), ("mixed", 0)), [-2])


class Start(unittest.TestCase):
    def test_two_to_four_kinds(self):
        for k in (2, 3, 4):
            self.assertEqual(ask(("start", k)), [[0]])

    def test_other_numbers_of_kinds(self):
        for k in (0, 1, 5, 6, 100, 2 ** 31, MOST):
            self.assertEqual(ask(("start", k)), [[-22]])

    def test_a_start_leaves_no_fields(self):
        found = ask(("start", 2), ("field", [1, 2, 1]), ("start", 2), ("mixed", 0), ("field", [4, 0, 0]), ("mixed", 0))
        self.assertEqual(found[2:], [[0], [-2], [0], [0, 0, 1]])

    def test_a_start_makes_room_for_six_fields_again(self):
        six = [("field", [1, 1, 1])] * 6
        found = ask(("start", 2), *six, ("start", 2), *six, ("field", [1, 1, 1]))
        self.assertEqual(found[8:], [[0], [1], [2], [3], [4], [5], [-28]])

    def test_a_start_changes_the_kinds(self):
        found = ask(("start", 2), ("start", 3), ("field", [1, 2, 1]), ("field", [1] * 6), ("kind", 0, 2), ("kind", 0, 3))
        self.assertEqual(found[2:], [[-22], [0], [0, 1, 3], [-22]])

    def test_a_refused_start_leaves_kinds_and_fields(self):
        for k in (0, 1, 5, MOST):
            found = ask(
                ("start", 3), ("field", [1, 2, 0, 3, 4, 0]), ("start", k),
                ("mixed", 0), ("kind", 0, 2), ("kind", 0, 3), ("field", [1] * 6),
            )
            self.assertEqual(found[2:], [[-22], [0, 3, 5], [0, 1, 5], [-22], [1]])


class Field(unittest.TestCase):
    def test_numbers_count_up_from_0(self):
        for k in (2, 3, 4):
            field = ("field", [1] * len(pairs(k)))
            self.assertEqual(ask(("start", k), *[field] * 6)[1:], [[0], [1], [2], [3], [4], [5]])

    def test_a_seventh_is_refused_and_the_six_stay(self):
        six = [("field", [n, 1, 0]) for n in range(6)]
        shares = [("share", f, 0, 1) for f in range(7)]
        found = ask(("start", 2), *six, ("field", [9, 9, 9]), *shares)
        self.assertEqual(found[7:], [[-28]] + [[0, 1, n + 1] for n in range(6)] + [[-2]])

    def test_plants_stand_in_the_order_of_pairs(self):
        for k in (2, 3, 4):
            counts = [n * n + 1 for n in range(len(pairs(k)))]
            total = sum(counts)
            for (i, j), count in zip(pairs(k), counts):
                answer = ask_last(("start", k), ("field", counts), ("share", 0, i, j))
                self.assertEqual(answer[1] * total, answer[2] * count)

    def test_as_many_as_pairs(self):
        for k, many in ((2, 3), (3, 6), (4, 10)):
            for length in range(61):
                expected = [0] if length == many else [-22]
                self.assertEqual(ask_last(("start", k), ("field", [1] * length)), expected)

    def test_at_most_100_of_each_pair(self):
        for k in (2, 3, 4):
            many = len(pairs(k))
            self.assertEqual(ask_last(("start", k), ("field", [100] * many)), [0])
            self.assertEqual(ask_last(("start", k), ("field", [0] * many)), [0])
            for place in range(many):
                for count, answer in ((100, [0]), (101, [-22]), (MOST, [-22])):
                    counts = [0] * many
                    counts[place] = count
                    self.assertEqual(ask_last(("start", k), ("field", counts)), answer)

    def test_wrong_lists_go_before_too_many_fields(self):
        six = [("field", [1, 1, 1])] * 6
        for counts in ([], [1, 1], [1, 1, 1, 1], [1, 101, 1], [MOST] * 60):
            self.assertEqual(ask_last(("start", 2), *six, ("field", counts)), [-22])

    def test_a_refused_field_takes_no_number(self):
        found = ask(
            ("start", 2), ("field", []), ("field", [1, 2]), ("field", [0, 0, 101]),
            ("mixed", 0), ("field", [1, 2, 1]), ("field", [1] * 60), ("mixed", 0), ("mixed", 1),
        )
        self.assertEqual(found[1:], [[-22], [-22], [-22], [-2], [0], [-22], [0, 1, 2], [-2]])


if __name__ == "__main__":
    unittest.main()
