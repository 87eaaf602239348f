"""told and income, and the refusals of these calls."""

import unittest

from tests.helper import INCOME, LARGEST, SETTLE, ask, begin, book, cancel, change, last, number, offer, told, withdraw


class Told(unittest.TestCase):
    def test_from_to_and_price(self):
        made = [begin(2, 60), book(0, 60, 0), book(59, 60, 1000000), book(3, 7, 12)]
        self.assertEqual(ask(*made, told(0), told(1), told(2), told(3))[len(made):],
                         [(0, [0, 60, 0]), (0, [59, 60, 1000000]), (0, [3, 7, 12]), number(-3)])

    def test_behind_change(self):
        made = [begin(1, 6), book(0, 2, 77), book(2, 3, 5)]
        self.assertEqual(ask(*made, change(0, 3, 6), told(0), told(1))[-2:], [(0, [3, 6, 77]), (0, [2, 3, 5])])
        self.assertEqual(ask(*made, change(0, 1, 3), told(0))[-2:], [(-4, [2]), (0, [0, 2, 77])])
        self.assertEqual(ask(*made, change(0, 0, 7), told(0))[-2:], [number(-1), (0, [0, 2, 77])])

    def test_behind_cancel(self):
        made = [begin(1, 6), book(0, 2, 77), book(2, 3, 5), cancel(0)]
        self.assertEqual(ask(*made, told(0), told(1), book(0, 1, 9), told(0), told(2))[len(made):],
                         [number(-3), (0, [2, 3, 5]), number(2), number(-3), (0, [0, 1, 9])])

    def test_behind_settle(self):
        made = [begin(1, 6), book(0, 2, 77), offer(4, 6, 3), offer(2, 4, 8)]
        self.assertEqual(ask(*made, told(1), SETTLE, told(0), told(1), told(2), told(3))[len(made):],
                         [number(-3), number(2), (0, [0, 2, 77]), (0, [4, 6, 3]), (0, [2, 4, 8]), number(-3)])

    def test_none_of_that_number(self):
        for stay in (1, 39, 40, LARGEST):
            self.assertEqual(last(begin(1, 6), book(0, 2), told(stay)), number(-3), stay)
        self.assertEqual(last(begin(1, 6), told(0)), number(-3))

    def test_an_offer_is_no_stay(self):
        self.assertEqual(last(begin(1, 6), offer(0, 1, 5), told(0)), number(-3))

    def test_the_last_of_40(self):
        made = [begin(1, 60)] + [book(n, n + 1, n) for n in range(40)]
        self.assertEqual(ask(*made, told(39), told(40))[-2:], [(0, [39, 40, 39]), number(-3)])


class Income(unittest.TestCase):
    def test_no_stay(self):
        self.assertEqual(last(begin(1, 6), INCOME), (0, [0]))

    def test_how_many_stays_and_their_prices_together(self):
        made = [begin(2, 6), book(0, 6, 100), book(0, 1, 20), book(5, 6, 3)]
        self.assertEqual(last(*made, INCOME), (3, [123]))
        self.assertEqual(last(begin(1, 6), book(0, 1, 0), book(1, 2, 0), INCOME), (2, [0]))

    def test_what_is_refused_earns_nothing(self):
        self.assertEqual(last(begin(1, 6), book(0, 6, 100), book(0, 1, 20), book(0, 7, 3), INCOME), (1, [100]))

    def test_behind_change(self):
        self.assertEqual(last(begin(1, 6), book(0, 1, 100), change(0, 0, 6), INCOME), (1, [100]))
        self.assertEqual(last(begin(1, 6), book(0, 6, 100), book(0, 1, 3), change(0, 3, 4), INCOME), (1, [100]))

    def test_behind_cancel(self):
        made = [begin(2, 6), book(0, 6, 100), book(0, 1, 20), book(5, 6, 3), cancel(1)]
        self.assertEqual(last(*made, INCOME), (2, [103]))
        self.assertEqual(last(*made, cancel(1), INCOME), (2, [103]))
        self.assertEqual(last(*made, cancel(0), cancel(2), INCOME), (0, [0]))

    def test_behind_settle(self):
        made = [begin(1, 6), book(0, 1, 100), offer(0, 2, 50), offer(2, 4, 7), offer(3, 5, 6), offer(5, 6, 9),
                withdraw(3)]
        self.assertEqual(ask(*made, INCOME, SETTLE, INCOME)[-3:], [(1, [100]), number(1), (2, [107])])
        self.assertEqual(last(*made, SETTLE, cancel(0), INCOME), (1, [7]))

    def test_the_most(self):
        made = [begin(8, 60)] + [book(n % 5, n % 5 + 1, 1000000) for n in range(40)]
        self.assertEqual(last(*made, INCOME), (40, [40000000]))


if __name__ == "__main__":
    unittest.main()
