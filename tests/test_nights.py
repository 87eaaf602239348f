"""free, first, until: what is free, and the refusals of these calls."""

import itertools
import unittest

from tests.helper import LARGEST, ROOMS, ask, begin, book, cancel, change, first, free, last, number, offer, until


def full_on(nights, full):
    """A desk with one room, full on just these nights."""
    return [begin(1, nights)] + [book(n, n + 1) for n in full]


class Free(unittest.TestCase):
    def test_rooms_less_stays_that_have_the_night(self):
        made = [begin(3, 5), book(0, 3), book(1, 4), book(2, 3)]
        self.assertEqual(ask(*made, *[free(n) for n in range(6)])[len(made):], [number(n) for n in (2, 1, 0, 2, 3, -1)])

    def test_which_nights_there_are(self):
        for nights in (1, 2, 60):
            for n, answered in ((0, 8), (nights - 1, 8), (nights, -1), (nights + 1, -1), (LARGEST, -1)):
                self.assertEqual(last(begin(8, nights), free(n)), number(answered), (nights, n))

    def test_cancelled_and_changed_stays(self):
        made = [begin(2, 3), book(0, 2), book(0, 3)]
        looks = [free(n) for n in range(3)]
        self.assertEqual(ask(*made, *looks)[-3:], [number(0), number(0), number(1)])
        self.assertEqual(ask(*made, cancel(1), *looks)[-3:], [number(1), number(1), number(2)])
        self.assertEqual(ask(*made, change(0, 2, 3), *looks)[-3:], [number(1), number(1), number(0)])

    def test_offers_take_no_room(self):
        self.assertEqual(last(begin(1, 1), offer(0, 1, 5), free(0)), number(1))

    def test_from_all_rooms_to_none(self):
        for taken in range(9):
            self.assertEqual(last(begin(8, 1), *[book(0, 1)] * taken, free(0)), number(8 - taken))
        self.assertEqual(last(begin(8, 1), *[book(0, 1)] * 10, free(0)), number(0))


class First(unittest.TestCase):
    def finds(self, made, rows):
        for how_many, start, answered in rows:
            self.assertEqual(last(*made, first(how_many, start)), number(answered), (how_many, start))

    def test_all_nights_free(self):
        self.finds([begin(2, 5)], ((1, 0, 0), (1, 3, 3), (1, 4, 4), (1, 5, -5), (2, 3, 3), (2, 4, -5), (4, 1, 1),
                                   (4, 2, -5), (5, 0, 0), (5, 1, -5), (6, 0, -5)))

    def test_one_night(self):
        self.finds([begin(1, 1)], ((0, 0, -1), (1, 0, 0), (2, 0, -5), (1, 1, -5)))
        self.finds([begin(1, 1), book(0, 1)], ((0, 0, -1), (1, 0, -5), (1, 1, -5)))

    def test_60_nights(self):
        self.finds([begin(1, 60)], ((59, 0, 0), (60, 0, 0), (61, 0, -5), (60, 1, -5), (1, 59, 59), (2, 59, -5),
                                    (1, 60, -5)))

    def test_full_nights_at_the_beginning(self):
        self.finds(full_on(6, (0, 1)), ((1, 0, 2), (1, 1, 2), (1, 2, 2), (4, 0, 2), (4, 3, -5), (5, 0, -5)))

    def test_full_nights_in_the_middle(self):
        self.finds(full_on(8, (2, 5)), ((1, 0, 0), (2, 0, 0), (2, 1, 3), (2, 2, 3), (2, 4, 6), (3, 0, -5), (1, 2, 3),
                                        (1, 5, 6)))
        self.finds(full_on(7, (2,)), ((2, 0, 0), (3, 0, 3), (4, 0, 3), (4, 3, 3), (4, 4, -5), (5, 0, -5), (1, 1, 1)))

    def test_full_nights_at_the_end(self):
        self.finds(full_on(5, (3, 4)), ((3, 0, 0), (4, 0, -5), (1, 2, 2), (2, 2, -5), (1, 3, -5), (1, 4, -5)))

    def test_rows_that_reach_the_last_night(self):
        self.finds(full_on(6, (1, 3)), ((2, 0, 4), (2, 4, 4), (2, 5, -5), (1, 5, 5), (3, 0, -5)))

    def test_all_nights_full(self):
        self.finds([begin(1, 4), book(0, 4)], ((1, 0, -5), (1, 3, -5), (4, 0, -5), (0, 0, -1)))

    def test_a_night_with_one_room_of_several_taken_is_free(self):
        self.finds([begin(2, 4), book(0, 3), book(1, 2)], ((1, 0, 0), (2, 0, 2), (1, 1, 2), (3, 0, -5)))

    def test_no_room_need_be_the_same_all_through(self):
        # On night 1 room 1 is had, on night 2 room 0.
        made = [begin(2, 3), book(0, 1), book(0, 2), book(2, 3)]
        self.assertEqual(last(*made, ROOMS), (0, [0, 1, 0]))
        self.finds(made, ((2, 0, 1), (2, 1, 1)))

    def test_how_many_is_0(self):
        for start in (0, 3, 4, 5, LARGEST):
            self.finds([begin(1, 4)], ((0, start, -1),))

    def test_from_behind_the_last_night(self):
        for how_many, start in itertools.product((1, 4, 5, LARGEST), (4, 5, LARGEST)):
            self.finds([begin(1, 4)], ((how_many, start, -5),))

    def test_the_largest_how_many(self):
        self.finds([begin(1, 4)], ((LARGEST, 0, -5), (LARGEST, 3, -5), (LARGEST - 1, 1, -5)))


class Until(unittest.TestCase):
    def counts(self, made, nights):
        self.assertEqual(ask(*made, *[until(n) for n in range(len(nights))])[len(made):], [number(n) for n in nights])

    def test_all_nights_free(self):
        self.counts([begin(3, 4)], [4, 3, 2, 1, -1, -1])
        self.counts([begin(1, 1)], [1, -1])
        self.counts([begin(1, 60)], list(range(60, 0, -1)) + [-1])

    def test_full_nights_at_the_beginning(self):
        self.counts(full_on(5, (0, 1)), [0, 0, 3, 2, 1, -1])

    def test_full_nights_in_the_middle(self):
        self.counts(full_on(7, (2, 4)), [2, 1, 0, 1, 0, 2, 1, -1])

    def test_full_nights_at_the_end(self):
        self.counts(full_on(4, (2, 3)), [2, 1, 0, 0, -1])

    def test_all_nights_full(self):
        self.counts([begin(2, 3), book(0, 3), book(0, 3)], [0, 0, 0, -1])

    def test_a_night_with_one_room_of_several_taken_is_free(self):
        self.counts([begin(2, 4), book(0, 3), book(1, 2)], [1, 0, 2, 1, -1])

    def test_cancelled_and_changed_stays(self):
        made = full_on(4, (1, 3))
        self.counts(made + [cancel(0)], [3, 2, 1, 0, -1])
        self.counts(made + [change(1, 0, 1)], [0, 0, 2, 1, -1])

    def test_the_largest_night(self):
        self.assertEqual(last(begin(1, 4), until(LARGEST)), number(-1))
        self.assertEqual(last(begin(1, 4), book(0, 4), until(LARGEST)), number(-1))


class Together(unittest.TestCase):
    def test_a_stay_can_be_booked_just_where_its_nights_are_free_in_a_row(self):
        for full in itertools.product((False, True), repeat=5):
            made = full_on(5, [n for n in range(5) if full[n]])
            rows = [row[0] for row in ask(*made, *[until(n) for n in range(5)])[len(made):]]
            for start, end in itertools.combinations(range(6), 2):
                booked = last(*made, book(start, end))
                self.assertEqual(booked[0] != -4, rows[start] >= end - start)
                if booked[0] == -4:
                    self.assertEqual(booked[1], [start + rows[start]])
            for how_many in range(1, 7):
                for start in range(7):
                    found = [n for n in range(start, 5) if rows[n] >= how_many] + [-5]
                    self.assertEqual(last(*made, first(how_many, start)), number(found[0]))


if __name__ == "__main__":
    unittest.main()
