"""The interface: how calls are handed in and answers are given back."""

import unittest

from roomdesk.desk import answers
from tests.helper import FIFTEEN, FIFTEEN_WRONG

# 1 room, 4 nights: night 0 full and asked for, night 3 asked for twice.
ALL_SIXTEEN = [1, 1, 4, 2, 0, 2, 7, 2, 3, 4, 7, 4, 1, 2, 3, 3, 1,
               5, 0, 1, 9, 5, 2, 4, 4, 5, 3, 4, 6, 5, 2, 3, 1, 6, 3, 7, 8,
               9, 10, 11, 3, 12, 2, 13, 1, 1, 14, 2, 15, 2, 16]


class Form(unittest.TestCase):
    def test_each_answer_has_its_length_before_it(self):
        self.assertEqual(answers([1, 2, 3]), [2, 0, 0])
        self.assertEqual(answers([1, 0, 3]), [2, -1, 0])
        self.assertEqual(answers([7]), [2, -2, 0])

    def test_all_sixteen_calls_one_behind_another(self):
        self.assertEqual(answers(ALL_SIXTEEN), [
            2, 0, 0,
            2, 0, 0, 2, 1, 0,
            2, 0, 0,
            2, 0, 0,
            2, 0, 0, 2, 1, 0, 2, 2, 0, 2, 3, 0,
            2, 0, 0,
            3, 6, 1, 2,
            6, 0, 4, 9, 0, 0, 4,
            2, 1, 0,
            5, 0, 3, 0, 1, 0,
            3, 0, 1, 3,
            2, 1, 0,
            2, 2, 0,
            2, 1, 0,
            5, 0, 3, 3, 4, 6,
            3, 2, 1, 13])

    def test_a_refusal_for_want_of_a_room_has_the_night_in_its_row(self):
        self.assertEqual(answers([1, 1, 4, 2, 2, 3, 0, 2, 0, 4, 0]), [2, 0, 0, 2, 0, 0, 3, -4, 1, 2])

    def test_an_empty_row_has_its_count(self):
        self.assertEqual(answers([1, 1, 1, 7, 8]), [2, 0, 0, 2, 0, 0, 3, 0, 1, 0])
        self.assertEqual(answers([1, 1, 1, 10, 16]), [2, 0, 0, 2, 0, 0, 3, 0, 1, 0])

    def test_every_call_has_as_many_numbers_as_it_is_told_to_have(self):
        # A call that took one number more or fewer would not leave the begin behind it as it is.
        for call in FIFTEEN + FIFTEEN_WRONG:
            self.assertEqual(answers(call), [2, -2, 0], call)
            self.assertEqual(answers([1, 1, 1] + call + [1, 9, 9])[-3:], [2, -1, 0], call)
            self.assertEqual(answers(call + [1, 9, 9] + call), [2, -2, 0, 2, -1, 0, 2, -2, 0], call)

    def test_refusals_have_an_empty_row(self):
        self.assertEqual(answers([1, 1, 1, 11, 1, 12, 1, 13, 0, 0, 13, 2, 0, 14, 1, 15, 0]),
                         [2, 0, 0, 2, -1, 0, 2, -1, 0, 2, -1, 0, 2, -5, 0, 2, -1, 0, 2, -3, 0])

    def test_a_list_of_plain_whole_numbers_is_given_back(self):
        given = answers(ALL_SIXTEEN)
        self.assertIs(type(given), list)
        self.assertEqual({type(value) for value in given}, {int})

    def test_what_is_handed_in_is_the_same_afterwards(self):
        calls = list(ALL_SIXTEEN)
        answers(calls)
        self.assertEqual(calls, ALL_SIXTEEN)

    def test_what_is_given_back_is_not_what_was_handed_in(self):
        calls = list(ALL_SIXTEEN)
        given = answers(calls)
        given.append(99)
        self.assertEqual(calls, ALL_SIXTEEN)

    def test_nothing_is_kept_from_one_time_to_the_next(self):
        first = answers(ALL_SIXTEEN)
        self.assertEqual(answers(ALL_SIXTEEN), first)
        self.assertEqual(answers([2, 0, 1, 1]), [2, -2, 0])
        self.assertEqual(answers(ALL_SIXTEEN), first)

    def test_300_calls(self):
        calls = [1, 8, 60]
        for price in range(1, 11):
            calls += [5, 0, 60, price]
        calls += [7, 8] * 144 + [8]
        self.assertEqual(len(answers(calls)), 11 * 3 + 144 * 11 + 145 * 63)

    def test_300_calls_on_a_full_desk(self):
        calls = [1, 8, 60]
        for stay in range(40):
            calls += [2, stay // 8 * 12, stay // 8 * 12 + 12, 1000000]
        calls += [10, 11, 59, 13, 60, 0, 14, 0, 16] * 51 + [9, 9, 9, 9]
        self.assertEqual(len(answers(calls)), 41 * 3 + 51 * (43 + 11 + 3 + 3 + 4) + 4 * 3)


if __name__ == "__main__":
    unittest.main()
