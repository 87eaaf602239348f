"""settle: what is booked, what becomes of the other offers and of their numbers, and its refusal."""

import unittest

from tests.helper import (CHOOSE, INCOME, PRICES, ROOMS, SETTLE, ask, begin, book, cancel, change, everything, first,
                          free, last, number, offer, told, until, withdraw)


def used(stays):
    """One room, 60 nights, so many stays with one night each, from night 0 on."""
    return [begin(1, 60)] + [book(n, n + 1) for n in range(stays)]


class Settled(unittest.TestCase):
    def test_how_many_were_chosen(self):
        made = [begin(1, 4), offer(0, 2, 5), offer(1, 3, 9), offer(2, 4, 5)]
        self.assertEqual(ask(*made, CHOOSE, SETTLE)[-2:], [(10, [0, 2]), number(2)])
        self.assertEqual(last(*made, offer(1, 3, 11), SETTLE), number(1))
        self.assertEqual(last(begin(8, 1), *[offer(0, 1, 3)] * 10, SETTLE), number(8))
        self.assertEqual(last(begin(1, 10), *[offer(n, n + 1, 3) for n in range(10)], SETTLE), number(10))

    def test_stays_are_numbered_on_in_the_order_of_the_offers_numbers(self):
        # Neither by their nights nor by their prices.
        made = [begin(2, 6), book(0, 1, 70), book(1, 2, 71), offer(4, 6, 3), offer(0, 2, 9), offer(2, 3, 1)]
        self.assertEqual(ask(*made, SETTLE, told(2), told(3), told(4), told(5))[-5:],
                         [number(3), (0, [4, 6, 3]), (0, [0, 2, 9]), (0, [2, 3, 1]), number(-3)])
        self.assertEqual(last(*made, SETTLE, book(5, 6)), number(5))

    def test_stays_that_are_there_stay_as_they_are(self):
        made = [begin(2, 6), book(0, 3, 70), book(1, 2, 71), cancel(1), offer(0, 6, 3)]
        self.assertEqual(ask(*made, SETTLE, told(0), told(1), told(2))[-3:],
                         [(0, [0, 3, 70]), number(-3), (0, [0, 6, 3])])

    def test_their_prices_are_the_offers_not_the_nights(self):
        made = [begin(1, 1), offer(0, 1, 1), offer(0, 1, 1000000), PRICES, SETTLE]
        self.assertEqual(ask(*made, told(0), INCOME)[-4:], [(0, [1]), number(1), (0, [0, 1, 1000000]), (1, [1000000])])

    def test_of_several_that_earn_as_much_those_that_choose_tells(self):
        made = [begin(1, 2), offer(0, 1, 2), offer(0, 2, 4), offer(1, 2, 2)]
        self.assertEqual(ask(*made, SETTLE, told(0), told(1), told(2))[-4:],
                         [number(2), (0, [0, 1, 2]), (0, [1, 2, 2]), number(-3)])

    def test_withdrawn_and_not_chosen_offers_are_not_booked(self):
        made = [begin(1, 4), offer(0, 2, 9), offer(0, 1, 3), offer(3, 4, 8), withdraw(0), offer(1, 4, 7),
                offer(1, 2, 2)]
        self.assertEqual(ask(*made, SETTLE, told(0), told(1), told(2), told(3), INCOME)[-6:],
                         [number(3), (0, [0, 1, 3]), (0, [3, 4, 8]), (0, [1, 2, 2]), number(-3), (3, [13])])

    def test_all_offers_are_gone(self):
        made = [begin(1, 4), offer(0, 2, 9), offer(0, 1, 3), offer(3, 4, 8), withdraw(2)]
        self.assertEqual(ask(*made, SETTLE, CHOOSE, PRICES, withdraw(0), withdraw(1), withdraw(2), SETTLE)[-6:],
                         [number(0), (0, [0] * 4), number(-3), number(-3), number(-3), number(0)])
        # What was not chosen is not chosen either when there's room for it again.
        self.assertEqual(ask(*made, SETTLE, cancel(0), CHOOSE, SETTLE)[-2:], [number(0), number(0)])

    def test_numbers_of_offers_begin_at_0_again(self):
        made = [begin(1, 4)] + [offer(0, 4, 1)] * 10 + [withdraw(3), offer(0, 4, 1)]
        again = ask(*made, SETTLE, *[offer(0, 4, 1)] * 11, withdraw(9), withdraw(9))[len(made):]
        self.assertEqual(again, [number(1)] + [number(n) for n in range(10)] + [number(-9), number(0), number(-3)])

    def test_offers_made_behind_it_are_chosen_and_settled_by_their_own_numbers(self):
        made = [begin(2, 2), offer(0, 2, 5), offer(1, 2, 1), offer(0, 1, 7), SETTLE, offer(1, 2, 4), offer(0, 2, 6)]
        self.assertEqual(ask(*made, CHOOSE, PRICES, SETTLE)[-3:], [number(0), (0, [0, 6]), number(0)])
        self.assertEqual(ask(*made, cancel(0), CHOOSE, SETTLE, told(3), told(4))[-4:],
                         [(6, [1]), number(1), (0, [0, 2, 6]), number(-3)])

    def test_no_offer_at_all(self):
        for made in ([begin(1, 2)], [begin(1, 2), book(0, 2, 3)], [begin(1, 2), offer(0, 1, 4), withdraw(0)]):
            self.assertEqual(last(*made, SETTLE), number(0))
            self.assertEqual(ask(*made, SETTLE, *everything())[len(made) + 1:], ask(*made, *everything())[len(made):])
            self.assertEqual(last(*made, SETTLE, offer(0, 1, 1)), number(0))

    def test_no_offer_that_can_be_in(self):
        made = [begin(1, 2), book(0, 1), offer(0, 2, 4), offer(0, 1, 9)]
        self.assertEqual(ask(*made, SETTLE, cancel(0), CHOOSE, INCOME, offer(0, 1, 1))[-5:],
                         [number(0), number(0), number(0), (0, [0]), number(0)])

    def test_settled_stays_have_their_nights(self):
        made = [begin(1, 4), offer(1, 3, 9), SETTLE]
        self.assertEqual(ask(*made, free(0), free(1), free(2), free(3), until(0), first(1, 1))[-6:],
                         [number(1), number(0), number(0), number(1), number(1), number(3)])
        self.assertEqual(ask(*made, book(0, 4), book(2, 3), book(3, 4))[-3:], [(-4, [1]), (-4, [2]), number(1)])

    def test_settled_stays_are_changed_and_cancelled_like_others(self):
        made = [begin(1, 4), offer(1, 3, 9), SETTLE, change(0, 0, 4), told(0), cancel(0), told(0), INCOME]
        self.assertEqual(ask(*made)[3:], [number(0), (0, [0, 4, 9]), number(0), number(-3), (0, [0])])


class NumbersUsed(unittest.TestCase):
    def test_just_40_numbers(self):
        settled = ask(*used(38), offer(38, 39, 5), offer(50, 60, 6), SETTLE, told(39), INCOME, book(45, 46), told(40))
        self.assertEqual(settled[-5:], [number(2), (0, [50, 60, 6]), (40, [201]), number(-9), number(-3)])

    def test_one_more(self):
        made = used(38) + [offer(38, 39, 5), offer(50, 60, 6), offer(40, 41, 7)]
        self.assertEqual(last(*made, SETTLE), number(-9))
        self.assertEqual(last(*made, withdraw(1), SETTLE), number(2))
        self.assertEqual(last(*used(30), *[offer(n, n + 1, 1) for n in range(50, 60)], SETTLE), number(10))
        self.assertEqual(last(*used(31), *[offer(n, n + 1, 1) for n in range(50, 60)], SETTLE), number(-9))

    def test_cancelled_stays_count(self):
        made = used(39) + [cancel(n) for n in range(39)]
        self.assertEqual(ask(*made, offer(0, 60, 1), SETTLE, told(39))[-2:], [number(1), (0, [0, 60, 1])])
        self.assertEqual(ask(*made, offer(0, 30, 1), offer(30, 60, 1), SETTLE, INCOME)[-2:], [number(-9), (0, [0])])

    def test_only_the_chosen_ones_count(self):
        made = used(39) + [offer(50, 60, 9), offer(50, 51, 1), offer(0, 1, 9), offer(55, 60, 3), offer(40, 41, 1),
                           withdraw(4)]
        self.assertEqual(last(*made, SETTLE), number(1))

    def test_40_numbers_are_used_and_none_is_chosen(self):
        self.assertEqual(last(*used(40), SETTLE), number(0))
        self.assertEqual(ask(*used(40), offer(0, 1, 9), offer(50, 60, 3), withdraw(1), SETTLE, withdraw(0),
                             offer(50, 60, 3), SETTLE)[-4:], [number(0), number(-3), number(0), number(-9)])

    def test_refused_nothing_is_changed(self):
        made = used(39) + [cancel(5), offer(50, 60, 9), offer(0, 6, 2), offer(5, 6, 3), offer(41, 42, 1), withdraw(3)]
        self.assertEqual(last(*made, SETTLE), number(-9))
        for look in (everything(), [offer(50, 60, 10), CHOOSE, PRICES], [withdraw(3)], [withdraw(2), SETTLE, told(39)],
                     [book(41, 42), SETTLE, ROOMS]):
            self.assertEqual(ask(*made, SETTLE, *look)[len(made) + 1:], ask(*made, *look)[len(made):])


if __name__ == "__main__":
    unittest.main()
