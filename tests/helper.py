"""Calls written by name, asked of the program and of a second, slow desk."""

import itertools

from roomdesk.desk import answers

LARGEST = 9223372036854775807


def begin(rooms, nights):
    return [1, rooms, nights]


def book(start, end, price=5):
    return [2, start, end, price]


def cancel(stay):
    return [3, stay]


def change(stay, start, end):
    return [4, stay, start, end]


def offer(start, end, price):
    return [5, start, end, price]


def withdraw(number):
    return [6, number]


CHOOSE = [7]
PRICES = [8]


def split(given):
    """The answers one by one, each as (number, row)."""
    rows = []
    at = 0
    while at < len(given):
        row = given[at + 1:at + 1 + given[at]]
        assert len(row) == given[at] and row[1] == len(row) - 2, given
        rows.append((row[0], row[2:]))
        at += 1 + given[at]
    return rows


def ask(*calls):
    """All answers to these calls, each as (number, row)."""
    rows = split(answers(list(itertools.chain(*calls))))
    assert len(rows) == len(calls)
    return rows


def last(*calls):
    """The answer to the last of these calls."""
    return ask(*calls)[-1]


def number(value):
    """An answer that is a number alone."""
    return (value, [])


def clears(prices, offers, chosen, left):
    """Whether these prices of nights are as they should be (P4 without its last sentence)."""
    for index, (start, end, price) in enumerate(offers):
        cost = sum(prices[start:end])
        if index in chosen and cost > price or index not in chosen and cost < price:
            return False
    return all(price >= 0 and (rooms == 0 or price == 0) for price, rooms in zip(prices, left))


class SlowDesk:
    """The document once more, written for plainness alone; stays and offers are dicts by number."""

    def __init__(self):
        self.begun = False

    def ask(self, call):
        kind, values = call[0], call[1:]
        if kind != 1 and not self.begun:
            return number(-2)
        names = {1: self.begin, 2: self.book, 3: self.cancel, 4: self.change, 5: self.offer, 6: self.withdraw,
                 7: self.choose, 8: self.prices}
        answered = names[kind](*values)
        return answered if isinstance(answered, tuple) else number(answered)

    def begin(self, rooms, nights):
        if rooms not in range(1, 9) or nights not in range(1, 61):
            return -1
        self.begun, self.rooms, self.nights = True, rooms, nights
        self.stays, self.stays_made, self.offers, self.offers_made = {}, 0, {}, 0
        return 0

    def free(self, without=None):
        return [self.rooms - sum(start <= night < end for stay, (start, end, price) in self.stays.items()
                                 if stay != without) for night in range(self.nights)]

    def asks_wrong(self, start, end, price):
        return start >= end or end > self.nights or price > 1000000

    def full(self, start, end, without=None):
        free = self.free(without)
        return [night for night in range(start, end) if free[night] <= 0][:1]

    def book(self, start, end, price):
        if self.asks_wrong(start, end, price):
            return -1
        if self.full(start, end):
            return (-4, self.full(start, end))
        if self.stays_made >= 40:
            return -9
        self.stays[self.stays_made] = (start, end, price)
        self.stays_made += 1
        return self.stays_made - 1

    def cancel(self, stay):
        return -3 if self.stays.pop(stay, None) is None else 0

    def change(self, stay, start, end):
        if stay not in self.stays:
            return -3
        if self.asks_wrong(start, end, 0):
            return -1
        if self.full(start, end, stay):
            return (-4, self.full(start, end, stay))
        self.stays[stay] = (start, end, self.stays[stay][2])
        return 0

    def offer(self, start, end, price):
        if self.asks_wrong(start, end, price) or price == 0:
            return -1
        if self.offers_made >= 10:
            return -9
        self.offers[self.offers_made] = (start, end, price)
        self.offers_made += 1
        return self.offers_made - 1

    def withdraw(self, offer_number):
        return -3 if self.offers.pop(offer_number, None) is None else 0

    def left(self, numbers):
        return [rooms - sum(self.offers[n][0] <= night < self.offers[n][1] for n in numbers)
                for night, rooms in enumerate(self.free())]

    def choose(self):
        can_be = []
        for size in range(len(self.offers) + 1):
            for numbers in itertools.combinations(sorted(self.offers), size):
                if min(self.left(numbers)) >= 0:
                    can_be.append((sum(self.offers[n][2] for n in numbers), [n in numbers for n in range(10)]))
        earned, has = max(can_be)
        return (earned, [n for n in range(10) if has[n]])

    def prices(self):
        chosen = self.choose()[1]
        evenings = range(self.nights + 1)
        cost = [[0 if a <= b else None for b in evenings] for a in evenings]
        ways = [(night + 1, night, 0) for night, rooms in enumerate(self.left(chosen)) if rooms > 0]
        ways += [(end, start, price) if n in chosen else (start, end, -price)
                 for n, (start, end, price) in self.offers.items()]
        for a, b, price in ways:
            cost[a][b] = price if cost[a][b] is None else min(cost[a][b], price)
        for by in evenings:
            for a in evenings:
                for b in evenings:
                    if cost[a][by] is not None and cost[by][b] is not None:
                        over = cost[a][by] + cost[by][b]
                        cost[a][b] = over if cost[a][b] is None else min(cost[a][b], over)
        return (0, [cost[0][night] - cost[0][night + 1] for night in range(self.nights)])
