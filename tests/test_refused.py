"""P6: refused, nothing is changed."""

import unittest

from tests.helper import (CHOOSE, FIFTEEN, FIFTEEN_WRONG, LARGEST, PRICES, SETTLE, ask, begin, book, cancel, change,
                          everything, first, free, last, night, offer, told, until, withdraw)

# Stay 2 is cancelled and offer 1 is withdrawn.
BUSY = [begin(2, 5), book(0, 3), book(1, 4), book(0, 5), book(4, 5), cancel(2), book(3, 5), offer(0, 2, 6),
        offer(4, 5, 3), offer(3, 5, 9), withdraw(1), offer(0, 1, 4)]
STAYS_USED = [begin(1, 60)] + [book(n, n + 1) for n in range(40)] + [cancel(3), offer(0, 5, 7)]
OFFERS_USED = [begin(1, 4), book(0, 1)] + [offer(n % 4, 4, n + 1) for n in range(10)] + [withdraw(2)]


def seen(calls):
    """All that later calls show of the desk: each look is at a desk that's come to be anew."""
    looks = [everything(), [SETTLE] + everything(), [book(0, 61)], [offer(0, 1, 1), offer(0, 1, 1), CHOOSE]]
    looks += [[book(night, night + 1)] * 9 for night in range(60)]
    looks += [[cancel(stay), book(0, 1)] for stay in range(41)]
    looks += [[cancel(stay), offer(0, 4, 1000), CHOOSE, PRICES] for stay in range(41)]
    looks += [[change(stay, start, start + 1)] for stay in range(41) for start in range(5)]
    looks += [[withdraw(number), CHOOSE, PRICES] for number in range(11)]
    return [ask(*calls, *look)[len(calls):] for look in looks]


class Refused(unittest.TestCase):
    def refuses(self, before, call, answered):
        self.assertEqual(last(*before, call), answered, call)
        self.assertEqual(seen(before + [call]), seen(before), call)

    def test_begin(self):
        for call in (begin(0, 4), begin(9, 4), begin(3, 0), begin(3, 61), begin(LARGEST, LARGEST)):
            self.refuses(BUSY, call, (-1, []))
            self.assertEqual(seen([call]), seen([]))

    def test_book(self):
        for call in (book(2, 2), book(0, 6), book(0, 1, 1000001), book(LARGEST, LARGEST)):
            self.refuses(BUSY, call, (-1, []))
        self.refuses(BUSY, book(0, 5), (-4, [1]))
        self.refuses(STAYS_USED, book(50, 60), (-9, []))

    def test_cancel(self):
        for stay in (2, 4, LARGEST):
            self.refuses(BUSY, cancel(stay), (-3, []))

    def test_change(self):
        for call in (change(2, 0, 1), change(4, 0, 1), change(LARGEST, 0, 1)):
            self.refuses(BUSY, call, (-3, []))
        for call in (change(0, 2, 2), change(0, 0, 6), change(1, LARGEST, LARGEST)):
            self.refuses(BUSY, call, (-1, []))
        self.refuses(BUSY, change(0, 0, 4), (-4, [3]))
        self.refuses(STAYS_USED, change(0, 1, 5), (-4, [1]))

    def test_offer(self):
        for call in (offer(2, 2, 1), offer(0, 6, 1), offer(0, 1, 0), offer(0, 1, 1000001), offer(LARGEST, LARGEST, 1)):
            self.refuses(BUSY, call, (-1, []))
        self.refuses(OFFERS_USED, offer(0, 4, 99), (-9, []))

    def test_withdraw(self):
        for number in (1, 4, LARGEST):
            self.refuses(BUSY, withdraw(number), (-3, []))

    def test_settle(self):
        self.refuses(STAYS_USED + [offer(50, 60, 9)], SETTLE, (-9, []))
        self.refuses(STAYS_USED + [withdraw(0), offer(3, 4, 9), offer(0, 1, 3)], SETTLE, (-9, []))

    def test_night_free_until(self):
        for call in (night, free, until):
            for n in (5, 6, LARGEST):
                self.refuses(BUSY, call(n), (-1, []))

    def test_first(self):
        for start in (0, 4, 5, LARGEST):
            self.refuses(BUSY, first(0, start), (-1, []))
        for call in (first(2, 0), first(2, 4), first(1, 5), first(LARGEST, 0), first(1, LARGEST),
                     first(LARGEST, LARGEST)):
            self.refuses(BUSY, call, (-5, []))

    def test_told(self):
        for stay in (2, 5, LARGEST):
            self.refuses(BUSY, told(stay), (-3, []))

    def test_before_it_is_begun(self):
        for call in FIFTEEN + FIFTEEN_WRONG:
            self.assertEqual(last(call), (-2, []), call)
            self.assertEqual(seen([call]), seen([]))
            self.assertEqual(seen([call, begin(2, 4)]), seen([begin(2, 4)]))


if __name__ == "__main__":
    unittest.main()
