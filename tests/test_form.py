"""The interface: how calls are handed in and answers are given back."""

import unittest

from roomdesk.desk import answers

# 1 room, 4 nights: night 0 full and asked for, night 3 asked for twice.
ALL_EIGHT = [1, 1, 4, 2, 0, 2, 7, 2, 3, 4, 7, 4, 1, 2, 3, 3, 1,
             5, 0, 1, 9, 5, 2, 4, 4, 5, 3, 4, 6, 5, 2, 3, 1, 6, 3, 7, 8]


class Form(unittest.TestCase):
    def test_each_answer_has_its_length_before_it(self):
        self.assertEqual(answers([1, 2, 3]), [2, 0, 0])
        self.assertEqual(answers([1, 0, 3]), [2, -1, 0])
        self.assertEqual(answers([7]), [2, -2, 0])

    def test_all_eight_calls_one_behind_another(self):
        self.assertEqual(answers(ALL_EIGHT), [
            2, 0, 0,
            2, 0, 0, 2, 1, 0,
            2, 0, 0,
            2, 0, 0,
            2, 0, 0, 2, 1, 0, 2, 2, 0, 2, 3, 0,
            2, 0, 0,
            3, 6, 1, 2,
            6, 0, 4, 9, 0, 0, 4])

    def test_a_refusal_for_want_of_a_room_has_the_night_in_its_row(self):
        self.assertEqual(answers([1, 1, 4, 2, 2, 3, 0, 2, 0, 4, 0]), [2, 0, 0, 2, 0, 0, 3, -4, 1, 2])

    def test_an_empty_row_has_its_count(self):
        self.assertEqual(answers([1, 1, 1, 7, 8]), [2, 0, 0, 2, 0, 0, 3, 0, 1, 0])

    def test_a_list_of_plain_whole_numbers_is_given_back(self):
        given = answers(ALL_EIGHT)
        self.assertIs(type(given), list)
        self.assertEqual({type(value) for value in given}, {int})

    def test_what_is_handed_in_is_the_same_afterwards(self):
        calls = list(ALL_EIGHT)
        answers(calls)
        self.assertEqual(calls, ALL_EIGHT)

    def test_what_is_given_back_is_not_what_was_handed_in(self):
        calls = list(ALL_EIGHT)
        given = answers(calls)
        given.append(99)
        self.assertEqual(calls, ALL_EIGHT)

    def test_nothing_is_kept_from_one_time_to_the_next(self):
        first = answers(ALL_EIGHT)
        self.assertEqual(answers(ALL_EIGHT), first)
        self.assertEqual(answers([2, 0, 1, 1]), [2, -2, 0])
        self.assertEqual(answers(ALL_EIGHT), first)

    def test_300_calls(self):
        calls = [1, 8, 60]
        for price in range(1, 11):
            calls += [5, 0, 60, price]
        calls += [7, 8] * 144 + [8]
        self.assertEqual(len(answers(calls)), 11 * 3 + 144 * 11 + 145 * 63)


if __name__ == "__main__":
    unittest.main()
