"""offer, withdraw, choose: P3, and the refusals of these calls."""

import unittest

from tests.helper import CHOOSE, LARGEST, PRICES, ask, begin, book, cancel, change, last, number, offer, withdraw


class Offer(unittest.TestCase):
    def test_offers_are_numbered_from_0(self):
        self.assertEqual(ask(begin(1, 3), offer(0, 1, 1), book(0, 1), offer(0, 3, 1), withdraw(0), offer(2, 3, 9))[1:],
                         [number(0), number(0), number(1), number(0), number(2)])

    def test_an_offer_may_ask_for_nights_that_are_full(self):
        self.assertEqual(last(begin(1, 3), book(0, 3), offer(0, 3, 1)), number(0))

    def test_from_and_to(self):
        for start, end, answered in ((0, 4, 0), (3, 4, 0), (0, 1, 0), (0, 5, -1), (4, 5, -1), (4, 4, -1), (0, 0, -1),
                                     (2, 2, -1), (2, 1, -1), (0, LARGEST, -1), (LARGEST, LARGEST, -1),
                                     (LARGEST, 4, -1)):
            self.assertEqual(last(begin(1, 4), offer(start, end, 1)), number(answered), (start, end))

    def test_prices(self):
        for price, answered in ((0, -1), (1, 0), (999999, 0), (1000000, 0), (1000001, -1), (LARGEST, -1)):
            self.assertEqual(last(begin(1, 4), offer(0, 1, price)), number(answered), price)

    def test_10_offers(self):
        made = ask(begin(1, 4), *[offer(0, 4, 1)] * 11)
        self.assertEqual(made[1:], [number(n) for n in range(10)] + [number(-9)])

    def test_withdrawn_offers_count(self):
        calls = [call for n in range(10) for call in (offer(0, 4, 1), withdraw(n))]
        self.assertEqual(ask(begin(1, 4), *calls, offer(0, 4, 1))[-3:], [number(9), number(0), number(-9)])

    def test_the_refusal_told_first_counts(self):
        made = [begin(1, 4)] + [offer(0, 4, 1)] * 10
        for wrong in (offer(0, 4, 0), offer(0, 5, 1), offer(2, 2, 1), offer(0, 4, 1000001)):
            self.assertEqual(last(*made, wrong), number(-1), wrong)
        self.assertEqual(last(*made, offer(0, 4, 1000000)), number(-9))


class Withdraw(unittest.TestCase):
    def test_it_is_not_chosen_any_more(self):
        made = [begin(1, 2), offer(0, 2, 5), offer(0, 1, 3)]
        self.assertEqual(ask(*made, CHOOSE, withdraw(0), CHOOSE, withdraw(1), CHOOSE)[3:],
                         [(5, [0]), number(0), (3, [1]), number(0), number(0)])

    def test_it_has_no_say_in_the_prices_any_more(self):
        made = [begin(1, 2), offer(0, 2, 5), offer(0, 1, 3)]
        self.assertEqual(ask(*made, PRICES, withdraw(1), PRICES)[3:], [(0, [3, 0]), number(0), (0, [0, 0])])

    def test_none_of_that_number(self):
        for refused in (1, 9, 10, LARGEST):
            self.assertEqual(last(begin(1, 2), offer(0, 1, 1), withdraw(refused)), number(-3), refused)
        self.assertEqual(last(begin(1, 2), withdraw(0)), number(-3))

    def test_none_of_that_number_any_more(self):
        self.assertEqual(ask(begin(1, 2), offer(0, 1, 1), withdraw(0), withdraw(0))[2:], [number(0), number(-3)])

    def test_a_stay_is_no_offer(self):
        self.assertEqual(last(begin(1, 2), book(0, 1), withdraw(0)), number(-3))


class Choose(unittest.TestCase):
    def test_no_offer_at_all(self):
        self.assertEqual(last(begin(1, 2), CHOOSE), number(0))
        self.assertEqual(last(begin(1, 2), book(0, 2), CHOOSE), number(0))
        self.assertEqual(last(begin(1, 2), offer(0, 1, 4), withdraw(0), CHOOSE), number(0))

    def test_all_that_can_be_in_together(self):
        self.assertEqual(last(begin(1, 3), offer(2, 3, 4), offer(0, 1, 1), offer(1, 2, 2), CHOOSE), (7, [0, 1, 2]))
        self.assertEqual(last(begin(8, 1), *[offer(0, 1, 1000000)] * 8, CHOOSE), (8000000, list(range(8))))

    def test_the_most_there_is_to_earn(self):
        made = [begin(1, 4), offer(0, 2, 5), offer(1, 3, 9), offer(2, 4, 5)]
        self.assertEqual(last(*made, CHOOSE), (10, [0, 2]))
        self.assertEqual(last(*made, offer(1, 3, 11), CHOOSE), (11, [3]))

    def test_on_no_night_more_than_rooms_are_free(self):
        made = [offer(0, 3, 4), offer(1, 2, 3), offer(0, 2, 2), offer(1, 3, 6)]
        for rooms, chosen in ((1, (6, [3])), (2, (10, [0, 3])), (3, (13, [0, 1, 3])), (4, (15, [0, 1, 2, 3]))):
            self.assertEqual(last(begin(rooms, 3), *made, CHOOSE), chosen, rooms)

    def test_of_several_that_earn_as_much_the_first_number_is_in(self):
        self.assertEqual(last(begin(1, 1), offer(0, 1, 4), offer(0, 1, 4), CHOOSE), (4, [0]))
        self.assertEqual(last(begin(1, 1), offer(0, 1, 3), offer(0, 1, 4), offer(0, 1, 4), CHOOSE), (4, [1]))
        self.assertEqual(last(begin(2, 1), *[offer(0, 1, 4)] * 4, CHOOSE), (8, [0, 1]))
        self.assertEqual(last(begin(1, 2), offer(0, 2, 4), offer(0, 1, 2), offer(1, 2, 2), CHOOSE), (4, [0]))
        self.assertEqual(last(begin(1, 2), offer(0, 1, 2), offer(0, 2, 4), offer(1, 2, 2), CHOOSE), (4, [0, 2]))
        self.assertEqual(last(begin(1, 2), offer(0, 1, 2), offer(1, 2, 2), offer(0, 2, 4), CHOOSE), (4, [0, 1]))

    def test_the_first_number_in_which_they_differ_not_the_first_of_all(self):
        # 0 is in by itself; behind it 1 alone earns as much as 2 and 3.
        self.assertEqual(last(begin(1, 3), offer(0, 1, 9), offer(1, 3, 4), offer(1, 2, 2), offer(2, 3, 2), CHOOSE),
                         (13, [0, 1]))
        self.assertEqual(last(begin(1, 3), offer(0, 1, 9), offer(1, 2, 2), offer(1, 3, 4), offer(2, 3, 2), CHOOSE),
                         (13, [0, 1, 3]))

    def test_a_withdrawn_number_has_no_say_among_several(self):
        self.assertEqual(last(begin(1, 1), *[offer(0, 1, 4)] * 3, withdraw(0), CHOOSE), (4, [1]))

    def test_nights_that_are_full_already(self):
        taken = [begin(1, 4), book(1, 2)]
        self.assertEqual(last(*taken, offer(0, 4, 1000000), offer(1, 2, 9), offer(2, 4, 3), CHOOSE), (3, [2]))
        self.assertEqual(last(*taken, offer(0, 4, 9), CHOOSE), number(0))
        self.assertEqual(last(begin(2, 4), book(1, 2), offer(0, 2, 9), offer(1, 3, 9), CHOOSE), (9, [0]))

    def test_cancelled_and_changed_stays_make_room(self):
        taken = [begin(1, 2), book(0, 2), offer(0, 1, 3), offer(1, 2, 4)]
        self.assertEqual(last(*taken, CHOOSE), number(0))
        self.assertEqual(last(*taken, change(0, 0, 1), CHOOSE), (4, [1]))
        self.assertEqual(last(*taken, cancel(0), CHOOSE), (7, [0, 1]))

    def test_choosing_changes_nothing(self):
        made = [begin(1, 2), offer(0, 2, 5), offer(0, 1, 3)]
        self.assertEqual(ask(*made, CHOOSE, CHOOSE, PRICES, PRICES, CHOOSE, withdraw(1), book(0, 2))[3:],
                         [(5, [0]), (5, [0]), (0, [3, 0]), (0, [3, 0]), (5, [0]), number(0), number(0)])


if __name__ == "__main__":
    unittest.main()
