"""prices: P4 and P5."""

import itertools
import random
import unittest

from tests.helper import CHOOSE, PRICES, ask, begin, book, cancel, clears, last, offer


def small_desks(how_many):
    """Small desks by a fixed row of chances: (rooms, nights, stays, offers)."""
    chance = random.Random(4)
    desks = []
    for turn in range(how_many):
        nights = chance.randint(1, 4)
        spans = list(itertools.combinations(range(nights + 1), 2))
        offers = [chance.choice(spans) + (chance.randint(1, 4),) for made in range(chance.randint(0, 6))]
        desks.append((chance.randint(1, 3), nights, chance.sample(spans, chance.randint(0, len(spans)) // 2), offers))
    return desks


def priced(rooms, nights, stays, offers):
    """(earned, chosen, the prices, the rooms left on each night) as the program tells them."""
    answered = ask(begin(rooms, nights), *[book(*stay) for stay in stays], *[offer(*row) for row in offers],
                   CHOOSE, PRICES)
    booked = [stay for stay, row in zip(stays, answered[1:]) if row[0] >= 0]
    earned, chosen = answered[-2]
    taken = booked + [offers[index][:2] for index in chosen]
    left = [rooms - sum(start <= night < end for start, end in taken) for night in range(nights)]
    return earned, chosen, answered[-1][1], left


class Prices(unittest.TestCase):
    def test_without_offers_nothing_costs(self):
        self.assertEqual(last(begin(2, 3), PRICES), (0, [0, 0, 0]))
        self.assertEqual(last(begin(1, 3), book(0, 3), PRICES), (0, [0, 0, 0]))

    def test_a_night_on_which_a_room_is_left_costs_nothing(self):
        self.assertEqual(last(begin(2, 2), offer(0, 2, 5), offer(0, 1, 3), PRICES), (0, [0, 0]))
        self.assertEqual(last(begin(2, 2), offer(0, 2, 5), offer(0, 1, 3), offer(0, 1, 2), PRICES), (0, [2, 0]))

    def test_what_others_would_have_paid(self):
        self.assertEqual(last(begin(1, 1), offer(0, 1, 5), offer(0, 1, 3), PRICES), (0, [3]))
        self.assertEqual(last(begin(1, 1), offer(0, 1, 1000000), offer(0, 1, 1000000), PRICES), (0, [1000000]))

    def test_the_nights_from_the_first_on_cost_as_little_as_can_be(self):
        # 3 for both nights could be asked for on either; asked for late, the first night costs less.
        self.assertEqual(last(begin(1, 2), offer(0, 2, 5), offer(0, 2, 3), PRICES), (0, [0, 3]))
        # Chosen nights bound what each one costs.
        self.assertEqual(last(begin(1, 2), offer(0, 1, 5), offer(1, 2, 2), offer(0, 2, 6), PRICES), (0, [4, 2]))

    def test_a_night_that_is_full_already_costs_what_is_offered_for_it(self):
        self.assertEqual(last(begin(1, 3), book(1, 2), offer(1, 2, 7), PRICES), (0, [0, 7, 0]))
        self.assertEqual(last(begin(1, 3), book(1, 2), offer(0, 3, 7), PRICES), (0, [0, 7, 0]))
        self.assertEqual(last(begin(1, 3), book(0, 3), offer(0, 3, 7), offer(0, 1, 2), PRICES), (0, [2, 0, 5]))

    def test_the_edges_of_a_desk(self):
        self.assertEqual(last(begin(1, 60), offer(0, 60, 9), offer(59, 60, 4), offer(0, 1, 3), PRICES),
                         (0, [3] + [0] * 58 + [4]))
        made = [offer(0, 1, price) for price in range(1, 11)]
        self.assertEqual(last(begin(8, 1), *made, PRICES), (0, [2]))

    def test_they_clear_and_cost_as_little_as_can_be_so(self):
        for desk in small_desks(150):
            earned, chosen, prices, left = priced(*desk)
            nights, offers = desk[1], desk[3]
            self.assertTrue(clears(prices, offers, chosen, left), desk)
            # A night for more than the highest offer could be had for that offer, and all would still clear.
            most = max([row[2] for row in offers], default=0)
            others = [row for row in itertools.product(range(most + 1), repeat=nights)
                      if clears(row, offers, chosen, left)]
            for night in range(nights + 1):
                self.assertEqual(sum(prices[:night]), min(sum(row[:night]) for row in others), (desk, night))

    def test_a_room_more_on_some_nights_earns_at_most_what_they_cost(self):
        for rooms, nights, stays, offers in small_desks(150):
            # Stay n has night n alone, so that it can make a room free there.
            calls = [begin(rooms + 1, nights)] + [book(night, night + 1) for night in range(nights)]
            calls += [book(*stay) for stay in stays] + [offer(*row) for row in offers] + [CHOOSE, PRICES]
            earned, prices = ask(*calls)[-2:]
            for some in itertools.product((False, True), repeat=nights):
                then = last(*calls, *[cancel(night) for night in range(nights) if some[night]], CHOOSE)
                cost = sum(price for price, one_more in zip(prices[1], some) if one_more)
                self.assertLessEqual(then[0], earned[0] + cost, (rooms, nights, stays, offers, some))


if __name__ == "__main__":
    unittest.main()
