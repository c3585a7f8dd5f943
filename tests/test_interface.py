"""The interface: how calls and answers are laid, and that nothing is changed or kept."""

import unittest

import restsquares
from restsquares.fields import answers
from tests.line import MOST, lay

# The calls 0 to 9, then a second start and field, and with these the calls 10 to 19.
EVERY_CALL = [
    0, 2, 1, 3, 3, 2, 1, 2, 0, 0, 1, 5, 3, 0, 1, 0, 4, 4, 0, 0, 1, 5, 0, 1, 6, 0, 1, 1, 7, 0, 50, 1, 0, 1, 8, 0, 9, 0,
    0, 2, 1, 3, 3, 2, 1, 1, 3, 1, 0, 3, 10, 0, 11, 0, 12, 0, 3, 13, 0, 1, 14, 0, 1, 0, 1, 15, 0, 1, 16, 0, 17, 0,
    18, 50, 2, 19,
]
THEIR_ANSWERS = [
    1, 0, 1, 0, 1, 7, 1, 3, 3, 0, 3, 7, 3, 0, 5, 14, 3, 0, 25, 196, 3, 0, 33, 98, 3, 0, 3, 7, 3, 0, 45, 98,
    1, 0, 1, 0, 1, 1, 3, 0, 1, 4, 1, 0, 1, 1, 5, 0, 1, 2, 1, 5, 3, 0, 7, 12, 2, 0, 1, 3, 1, 1, 3, 1, 6,
    3, 0, 9, 16, 2, 2, 2,
]


class Interface(unittest.TestCase):
    def test_the_package_has_its_name(self):
        self.assertEqual(restsquares.__name__, "restsquares")

    def test_numbers_behind_one_another(self):
        self.assertEqual(answers(EVERY_CALL), THEIR_ANSWERS)

    def test_one_call(self):
        self.assertEqual(answers([0, 4]), [1, 0])
        self.assertEqual(answers([0, 5]), [1, -22])
        self.assertEqual(answers([19]), [1, -11])

    def test_a_row_of_none_and_of_60(self):
        self.assertEqual(answers([0, 2, 1, 0, 0, 3]), [1, 0, 1, -22, 1, 0])
        self.assertEqual(answers([0, 2, 1, 60] + [0] * 60 + [0, 3]), [1, 0, 1, -22, 1, 0])
        self.assertEqual(answers([1, 0, 0, 3]), [1, -11, 1, 0])
        self.assertEqual(answers([1, 60] + [MOST] * 60 + [0, 3]), [1, -11, 1, 0])

    def test_refused_calls_are_passed_over_whole(self):
        # Every number is 0 but the call's own: read from a wrong place it would be a start of 0.
        calls = [(2, 4), (3, 4), (4, 3), (5, 2), (6, 3), (7, 5), (8, 1), (9, 1), (10, 1), (11, 1), (12, 2), (13, 2),
                 (14, 4), (15, 2), (16, 1), (17, 1), (18, 2), (19, 0)]
        for number, many in calls:
            self.assertEqual(answers([number] + [0] * many + [0, 3]), [1, -11, 1, 0])

    def test_calls_behind_a_start_are_passed_over_whole(self):
        calls = [(2, 4), (3, 4), (4, 3), (5, 2), (6, 3), (7, 5), (8, 1), (9, 1), (10, 1), (11, 1), (12, 2), (13, 2),
                 (14, 4), (15, 2), (16, 1), (17, 1)]
        for number, many in calls:
            self.assertEqual(answers([0, 2, number] + [0] * many + [0, 3]), [1, 0, 1, -2, 1, 0])
        self.assertEqual(answers([0, 2, 18, 0, 0, 0, 3]), [1, 0, 3, 0, 1, 1, 1, 0])
        self.assertEqual(answers([0, 2, 18, 101, 0, 0, 3]), [1, 0, 1, -22, 1, 0])
        self.assertEqual(answers([0, 2, 19, 0, 3]), [1, 0, 2, 2, 0, 1, 0])

    def test_two_hundred_calls(self):
        calls = [("start", 4), ("field", [100] * 10)] + [("after", 0, 33, 3, 0, 1)] * 198
        found = answers(lay(calls))
        self.assertEqual(found[:4], [1, 0, 1, 0])
        self.assertEqual(found[4:], found[4:8] * 198)

    def test_the_longest_list(self):
        found = answers(lay([("field", [MOST] * 60)] * 200))
        self.assertEqual(found, [1, -11] * 200)

    def test_what_is_handed_in_stays(self):
        for calls in (EVERY_CALL, lay([("start", 2), ("field", [1, 2, 1]), ("put", 0, 0, 0, 9), ("take", 0, 0, 1, 2)])):
            before = list(calls)
            answers(calls)
            self.assertEqual(calls, before)

    def test_a_second_time_answers_the_same(self):
        first = answers(EVERY_CALL)
        self.assertEqual(answers(EVERY_CALL), first)
        self.assertIsNot(answers(EVERY_CALL), first)

    def test_nothing_is_kept_from_one_time_to_the_next(self):
        answers(EVERY_CALL)
        self.assertEqual(answers([8, 0]), [1, -11])
        self.assertEqual(answers([0, 2, 8, 0]), [1, 0, 1, -2])

    def test_changing_what_is_given_back_changes_nothing(self):
        first = answers(EVERY_CALL)
        first.clear()
        self.assertEqual(answers(EVERY_CALL), THEIR_ANSWERS)

    def test_whole_numbers_in_a_list(self):
        found = answers(EVERY_CALL + [0, 9, 8, 7])
        self.assertIs(type(found), list)
        self.assertEqual({type(number) for number in found}, {int})


if __name__ == "__main__":
    unittest.main()
