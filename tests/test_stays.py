"""begin, book, cancel, change: P1, and the refusals of these calls."""

import unittest

from tests.helper import (CHOOSE, FIFTEEN, FIFTEEN_WRONG, LARGEST, PRICES, SETTLE, ask, begin, book, cancel, change,
                          everything, last, number, offer, told, withdraw)


class Begin(unittest.TestCase):
    def test_bounds_of_rooms(self):
        for rooms, answered in ((0, -1), (1, 0), (2, 0), (7, 0), (8, 0), (9, -1), (LARGEST, -1)):
            self.assertEqual(last(begin(rooms, 5)), number(answered), rooms)

    def test_bounds_of_nights(self):
        for nights, answered in ((0, -1), (1, 0), (2, 0), (59, 0), (60, 0), (61, -1), (LARGEST, -1)):
            self.assertEqual(last(begin(5, nights)), number(answered), nights)

    def test_both_bounds_at_once(self):
        for rooms, nights, answered in ((1, 1, 0), (8, 60, 0), (0, 0, -1), (9, 61, -1), (LARGEST, LARGEST, -1)):
            self.assertEqual(last(begin(rooms, nights)), number(answered))

    def test_so_many_rooms_and_nights_are_there(self):
        for rooms in (1, 8):
            for nights in (1, 60):
                taken = ask(begin(rooms, nights), *[book(0, nights)] * (rooms + 1), book(0, nights + 1), PRICES)
                self.assertEqual(taken[1:-2], [number(n) for n in range(rooms)] + [(-4, [0])])
                self.assertEqual(taken[-2], number(-1))
                self.assertEqual(taken[-1], (0, [0] * nights))

    def test_before_it_is_begun_all_others_are_refused(self):
        self.assertEqual([call[0] for call in FIFTEEN], list(range(2, 17)))
        self.assertEqual(ask(*FIFTEEN), [number(-2)] * 15)

    def test_not_begun_is_told_before_all_other_refusals(self):
        self.assertEqual(ask(*FIFTEEN_WRONG), [number(-2)] * 15)

    def test_a_refused_begin_begins_nothing(self):
        self.assertEqual(ask(begin(0, 1), book(0, 1), begin(9, 1), CHOOSE, begin(1, 61), PRICES),
                         [number(-1), number(-2)] * 3)
        self.assertEqual(ask(begin(9, 61), *FIFTEEN)[1:], [number(-2)] * 15)

    def test_a_new_desk_in_the_place_of_one_that_is_there(self):
        before = [begin(1, 3), book(0, 3), offer(0, 1, 5)]
        after = ask(*before, begin(2, 4), cancel(0), withdraw(0), CHOOSE, PRICES, book(3, 4), offer(3, 4, 7), CHOOSE)
        self.assertEqual(after[3:], [number(0), number(-3), number(-3), number(0), (0, [0] * 4), number(0), number(0),
                                     (7, [0])])

    def test_nothing_of_the_former_desk_is_left_in_any_call(self):
        formers = [[begin(3, 6), book(0, 6, 9), book(1, 2), book(0, 3), cancel(1), offer(0, 6, 7), offer(1, 2, 8)],
                   [begin(1, 60)] + [book(n, n + 1) for n in range(40)] + [offer(50, 60, 7)] * 10,
                   [begin(8, 1)] + [offer(0, 1, 4)] * 3 + [SETTLE, offer(0, 1, 2), withdraw(0)]]
        looks = [[call] for call in FIFTEEN + FIFTEEN_WRONG] + [FIFTEEN, list(reversed(FIFTEEN)), everything()]
        looks += [[book(n, n + 1) for n in range(3)] * 14]
        looks += [[offer(0, 3, 1)] * 11 + [CHOOSE, PRICES, SETTLE] + everything()]
        for former in formers:
            for look in looks:
                self.assertEqual(ask(*former, begin(2, 3), *look)[len(former):], ask(begin(2, 3), *look), look)

    def test_a_new_desk_has_all_its_numbers_again(self):
        used = [call for stay in range(40) for call in (book(0, 1), cancel(stay))] + [offer(0, 1, 1)] * 10
        self.assertEqual(ask(begin(1, 1), *used, book(0, 1), offer(0, 1, 1))[-2:], [number(-9)] * 2)
        self.assertEqual(ask(begin(1, 1), *used, begin(1, 1), book(0, 1), offer(0, 1, 1))[-2:], [number(0)] * 2)

    def test_a_refused_begin_leaves_the_desk_that_is_there(self):
        before = [begin(1, 3), book(0, 2), offer(1, 3, 5)]
        for refused in (begin(0, 3), begin(9, 3), begin(2, 0), begin(2, 61)):
            after = ask(*before, refused, book(0, 1), book(2, 3), cancel(0), offer(0, 1, 1), withdraw(0))
            self.assertEqual(after[3:], [number(-1), (-4, [0]), number(1), number(0), number(1), number(0)])


class Book(unittest.TestCase):
    def test_stays_are_numbered_as_they_are_booked(self):
        self.assertEqual(ask(begin(2, 5), book(0, 5), book(0, 2), book(2, 5), book(4, 5), cancel(1), book(0, 1))[1:],
                         [number(0), number(1), number(2), (-4, [4]), number(0), number(3)])

    def test_refused_just_where_all_rooms_are_taken_on_a_night(self):
        taken = [begin(2, 6), book(1, 4), book(2, 5)]
        for start in range(6):
            for end in range(start + 1, 7):
                full = [night for night in (2, 3) if start <= night < end]
                answered = (-4, full[:1]) if full else number(2)
                self.assertEqual(last(*taken, book(start, end)), answered, (start, end))

    def test_the_night_told_is_the_first_that_is_full_of_its_own(self):
        taken = [begin(1, 6), book(0, 1), book(3, 4), book(5, 6)]
        self.assertEqual(last(*taken, book(1, 6)), (-4, [3]))
        self.assertEqual(last(*taken, book(4, 6)), (-4, [5]))
        self.assertEqual(last(*taken, book(0, 6)), (-4, [0]))

    def test_a_stay_does_not_have_its_last_evening(self):
        self.assertEqual(ask(begin(1, 3), book(0, 1), book(1, 2), book(2, 3))[1:], [number(0), number(1), number(2)])

    def test_from_and_to(self):
        for start, end, answered in ((0, 4, 0), (3, 4, 0), (0, 1, 0), (0, 5, -1), (4, 5, -1), (4, 4, -1), (0, 0, -1),
                                     (2, 2, -1), (2, 1, -1), (5, 4, -1), (0, LARGEST, -1), (LARGEST, LARGEST, -1),
                                     (LARGEST, 0, -1), (LARGEST, 4, -1), (LARGEST - 1, LARGEST, -1)):
            self.assertEqual(last(begin(1, 4), book(start, end)), number(answered), (start, end))

    def test_prices(self):
        for price, answered in ((0, 0), (1, 0), (999999, 0), (1000000, 0), (1000001, -1), (LARGEST, -1)):
            self.assertEqual(last(begin(1, 4), book(0, 1, price)), number(answered), price)

    def test_40_numbers(self):
        booked = ask(begin(1, 60), *[book(n, n + 1) for n in range(41)])
        self.assertEqual(booked[1:], [number(n) for n in range(40)] + [number(-9)])

    def test_numbers_of_cancelled_stays_are_used(self):
        calls = [call for stay in range(40) for call in (book(0, 1), cancel(stay))]
        self.assertEqual(ask(begin(1, 1), *calls, book(0, 1))[-3:], [number(39), number(0), number(-9)])

    def test_the_refusal_told_first_counts(self):
        used = [begin(1, 60)] + [book(n, n + 1) for n in range(40)]
        self.assertEqual(last(*used, book(0, 61)), number(-1))
        self.assertEqual(last(*used, book(0, 1, 1000001)), number(-1))
        self.assertEqual(last(*used, book(45, 45)), number(-1))
        self.assertEqual(last(*used, book(39, 41)), (-4, [39]))
        self.assertEqual(last(*used, book(40, 41)), number(-9))
        self.assertEqual(last(begin(1, 2), book(0, 2), book(0, 3)), number(-1))
        self.assertEqual(last(begin(1, 2), book(0, 2), book(0, 1, 1000001)), number(-1))

    def test_offers_take_no_room(self):
        self.assertEqual(last(begin(1, 2), offer(0, 2, 5), CHOOSE, PRICES, book(0, 2)), number(0))


class Cancel(unittest.TestCase):
    def test_its_nights_are_free_again(self):
        self.assertEqual(ask(begin(1, 3), book(0, 3), book(1, 2), cancel(0), book(1, 2))[1:],
                         [number(0), (-4, [1]), number(0), number(1)])

    def test_only_its_own_nights_are_free_again(self):
        self.assertEqual(ask(begin(1, 3), book(0, 1), book(2, 3), cancel(0), book(0, 3))[3:], [number(0), (-4, [2])])

    def test_none_of_that_number(self):
        for stay in (1, 2, 39, 40, LARGEST):
            self.assertEqual(last(begin(1, 3), book(0, 1), cancel(stay)), number(-3), stay)
        self.assertEqual(last(begin(1, 3), cancel(0)), number(-3))

    def test_none_of_that_number_any_more(self):
        self.assertEqual(ask(begin(1, 3), book(0, 1), book(1, 2), cancel(0), cancel(0), cancel(1), cancel(1))[3:],
                         [number(0), number(-3), number(0), number(-3)])

    def test_an_offer_is_no_stay(self):
        self.assertEqual(last(begin(1, 3), offer(0, 1, 1), cancel(0)), number(-3))


class Change(unittest.TestCase):
    def test_it_has_the_new_nights_and_not_the_old(self):
        after = ask(begin(1, 5), book(0, 2), change(0, 3, 5), book(0, 3), book(4, 5), book(3, 4))
        self.assertEqual(after[2:], [number(0), number(1), (-4, [4]), (-4, [3])])

    def test_as_if_it_were_not_there_itself(self):
        for start, end in ((0, 3), (1, 3), (0, 2), (1, 2), (0, 4), (2, 4), (0, 1), (3, 4)):
            self.assertEqual(last(begin(1, 4), book(0, 3), change(0, start, end)), number(0), (start, end))

    def test_others_are_still_there(self):
        taken = [begin(1, 6), book(0, 2), book(3, 4), book(5, 6)]
        self.assertEqual(last(*taken, change(0, 0, 6)), (-4, [3]))
        self.assertEqual(last(*taken, change(0, 4, 6)), (-4, [5]))
        self.assertEqual(last(*taken, change(1, 0, 6)), (-4, [0]))
        self.assertEqual(last(*taken, change(1, 2, 5)), number(0))

    def test_a_night_with_several_rooms(self):
        taken = [begin(2, 3), book(0, 1), book(1, 2), book(0, 2)]
        self.assertEqual(last(*taken, change(0, 0, 2)), (-4, [1]))
        self.assertEqual(last(*taken, change(2, 0, 3)), number(0))

    def test_none_of_that_number(self):
        for stay in (1, 40, LARGEST):
            self.assertEqual(last(begin(1, 3), book(0, 1), change(stay, 1, 2)), number(-3), stay)
        self.assertEqual(last(begin(1, 3), book(0, 1), cancel(0), change(0, 1, 2)), number(-3))

    def test_no_such_stay(self):
        for start, end, answered in ((0, 4, 0), (3, 4, 0), (0, 5, -1), (4, 5, -1), (4, 4, -1), (0, 0, -1), (2, 1, -1),
                                     (0, LARGEST, -1), (LARGEST, LARGEST, -1), (LARGEST, 1, -1)):
            self.assertEqual(last(begin(1, 4), book(0, 1), change(0, start, end)), number(answered), (start, end))

    def test_the_refusal_told_first_counts(self):
        taken = [begin(1, 3), book(0, 1), book(1, 3), cancel(0)]
        self.assertEqual(last(*taken, change(0, 2, 2)), number(-3))
        self.assertEqual(last(*taken, change(0, 0, 4)), number(-3))
        self.assertEqual(last(*taken, change(0, 1, 3)), number(-3))
        self.assertEqual(last(begin(1, 3), book(0, 1), book(1, 3), change(0, 0, 4)), number(-1))

    def test_it_uses_no_number(self):
        used = [begin(1, 60)] + [book(n, n + 1) for n in range(40)]
        self.assertEqual(last(*used, change(3, 40, 60)), number(0))
        self.assertEqual(last(begin(1, 3), book(0, 1), change(0, 1, 2), change(0, 2, 3), book(0, 1)), number(1))

    def test_its_price_is_as_it_was(self):
        changed = ask(begin(1, 3), book(0, 1, 77), change(0, 1, 3), told(0), change(0, 0, 4), told(0))
        self.assertEqual(changed[2:], [number(0), (0, [1, 3, 77]), number(-1), (0, [1, 3, 77])])


if __name__ == "__main__":
    unittest.main()
