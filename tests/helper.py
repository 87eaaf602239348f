"""Calls written by name, asked of the program and of a second, slow desk."""

import itertools

from roomdesk.desk import answers

LARGEST = 9223372036854775807


def begin(rooms, nights):
    return [1, rooms, nights]


def book(start, end, price=5):
    return [2, start, end, price]


def cancel(stay):
    return [3, stay]


def change(stay, start, end):
    return [4, stay, start, end]


def offer(start, end, price):
    return [5, start, end, price]


def withdraw(number):
    return [6, number]


def night(n):
    return [11, n]


def free(n):
    return [12, n]


def first(how_many, start):
    return [13, how_many, start]


def until(n):
    return [14, n]


def told(stay):
    return [15, stay]


CHOOSE = [7]
PRICES = [8]
SETTLE = [9]
ROOMS = [10]
INCOME = [16]

# Calls of all kinds but begin, in the order of their numbers.
FIFTEEN = [book(0, 1), cancel(0), change(0, 0, 1), offer(0, 1, 1), withdraw(0), CHOOSE, PRICES, SETTLE, ROOMS,
           night(0), free(0), first(1, 0), until(0), told(0), INCOME]
# The same kinds with numbers that are refused on every desk, where a call has such.
FIFTEEN_WRONG = [book(1, 1, LARGEST), cancel(LARGEST), change(LARGEST, 3, 3), offer(1, 1, 0), withdraw(LARGEST), CHOOSE,
                 PRICES, SETTLE, ROOMS, night(LARGEST), free(LARGEST), first(0, LARGEST), until(LARGEST), told(LARGEST),
                 INCOME]


def everything(stays=41, nights=61):
    """The calls that tell all of a desk and change nothing of it; first only now and then, for they'd be too many."""
    calls = [CHOOSE, PRICES, ROOMS, INCOME] + [told(stay) for stay in range(stays)]
    for n in range(nights):
        calls += [night(n), free(n), until(n)]
    return calls + [first(how_many, start) for how_many in (1, 2) for start in range(0, nights, 30)]


def split(given):
    """The answers one by one, each as (number, row)."""
    rows = []
    at = 0
    while at < len(given):
        row = given[at + 1:at + 1 + given[at]]
        assert len(row) == given[at] and row[1] == len(row) - 2, given
        rows.append((row[0], row[2:]))
        at += 1 + given[at]
    return rows


def ask(*calls):
    """All answers to these calls, each as (number, row)."""
    assert len(calls) <= 300
    rows = split(answers(list(itertools.chain(*calls))))
    assert len(rows) == len(calls)
    return rows


def last(*calls):
    """The answer to the last of these calls."""
    return ask(*calls)[-1]


def number(value):
    """An answer that is a number alone."""
    return (value, [])


def clears(prices, offers, chosen, left):
    """Whether these prices of nights are as they should be (P4 without its last sentence)."""
    for index, (start, end, price) in enumerate(offers):
        cost = sum(prices[start:end])
        if index in chosen and cost > price or index not in chosen and cost < price:
            return False
    return all(price >= 0 and (rooms == 0 or price == 0) for price, rooms in zip(prices, left))


class SlowDesk:
    """The document once more, written for plainness alone; stays and offers are dicts by number."""

    def __init__(self):
        self.begun = False

    def ask(self, call):
        kind, values = call[0], call[1:]
        if kind != 1 and not self.begun:
            return number(-2)
        kinds = [self.begin, self.book, self.cancel, self.change, self.offer, self.withdraw, self.choose, self.prices,
                 self.settle, self.tell_rooms, self.night, self.free, self.first, self.until, self.told, self.income]
        answered = kinds[kind - 1](*values)
        return answered if isinstance(answered, tuple) else number(answered)

    def begin(self, rooms, nights):
        if rooms not in range(1, 9) or nights not in range(1, 61):
            return -1
        self.begun, self.rooms, self.nights = True, rooms, nights
        self.stays, self.stays_made, self.offers, self.offers_made = {}, 0, {}, 0
        return 0

    def free_rooms(self, without=None):
        return [self.rooms - sum(start <= night < end for stay, (start, end, price) in self.stays.items()
                                 if stay != without) for night in range(self.nights)]

    def asks_wrong(self, start, end, price):
        return start >= end or end > self.nights or price > 1000000

    def full(self, start, end, without=None):
        free = self.free_rooms(without)
        return [night for night in range(start, end) if free[night] <= 0][:1]

    def book(self, start, end, price):
        if self.asks_wrong(start, end, price):
            return -1
        if self.full(start, end):
            return (-4, self.full(start, end))
        if self.stays_made >= 40:
            return -9
        self.stays[self.stays_made] = (start, end, price)
        self.stays_made += 1
        return self.stays_made - 1

    def cancel(self, stay):
        return -3 if self.stays.pop(stay, None) is None else 0

    def change(self, stay, start, end):
        if stay not in self.stays:
            return -3
        if self.asks_wrong(start, end, 0):
            return -1
        if self.full(start, end, stay):
            return (-4, self.full(start, end, stay))
        self.stays[stay] = (start, end, self.stays[stay][2])
        return 0

    def offer(self, start, end, price):
        if self.asks_wrong(start, end, price) or price == 0:
            return -1
        if self.offers_made >= 10:
            return -9
        self.offers[self.offers_made] = (start, end, price)
        self.offers_made += 1
        return self.offers_made - 1

    def withdraw(self, offer_number):
        return -3 if self.offers.pop(offer_number, None) is None else 0

    def left(self, numbers):
        return [rooms - sum(self.offers[n][0] <= night < self.offers[n][1] for n in numbers)
                for night, rooms in enumerate(self.free_rooms())]

    def choose(self):
        can_be = []
        for size in range(len(self.offers) + 1):
            for numbers in itertools.combinations(sorted(self.offers), size):
                if min(self.left(numbers)) >= 0:
                    can_be.append((sum(self.offers[n][2] for n in numbers), [n in numbers for n in range(10)]))
        earned, has = max(can_be)
        return (earned, [n for n in range(10) if has[n]])

    def prices(self):
        chosen = self.choose()[1]
        evenings = range(self.nights + 1)
        cost = [[0 if a <= b else None for b in evenings] for a in evenings]
        ways = [(night + 1, night, 0) for night, rooms in enumerate(self.left(chosen)) if rooms > 0]
        ways += [(end, start, price) if n in chosen else (start, end, -price)
                 for n, (start, end, price) in self.offers.items()]
        for a, b, price in ways:
            cost[a][b] = price if cost[a][b] is None else min(cost[a][b], price)
        for by in evenings:
            for a in evenings:
                for b in evenings:
                    if cost[a][by] is not None and cost[by][b] is not None:
                        over = cost[a][by] + cost[by][b]
                        cost[a][b] = over if cost[a][b] is None else min(cost[a][b], over)
        return (0, [cost[0][night] - cost[0][night + 1] for night in range(self.nights)])

    def settle(self):
        chosen = self.choose()[1]
        if self.stays_made + len(chosen) > 40:
            return -9
        for offer_number in chosen:
            self.stays[self.stays_made] = self.offers[offer_number]
            self.stays_made += 1
        self.offers, self.offers_made = {}, 0
        return len(chosen)

    def tell_rooms(self):
        taken = {(room, n): False for room in range(self.rooms) for n in range(self.nights)}
        has = [self.rooms] * self.stays_made
        for stay in sorted(self.stays, key=lambda stay: (self.stays[stay][0], stay)):
            nights = range(*self.stays[stay][:2])
            has[stay] = [room for room in range(self.rooms) if not any(taken[room, n] for n in nights)][0]
            taken.update({(has[stay], n): True for n in nights})
        return (0, has)

    def night(self, n):
        if n >= self.nights:
            return -1
        has = self.tell_rooms()[1]
        here = [stay for stay, (start, end, price) in self.stays.items() if n in range(start, end)]
        return (0, [sum(stay + 1 for stay in here if has[stay] == room) for room in range(self.rooms)])

    def free(self, n):
        return self.free_rooms()[n] if n < self.nights else -1

    def first(self, how_many, start):
        if how_many == 0:
            return -1
        found = [n for n in range(start, self.nights - how_many + 1) if 0 not in self.free_rooms()[n:n + how_many]]
        return found[0] if found else -5

    def until(self, n):
        return (self.free_rooms()[n:] + [0]).index(0) if n < self.nights else -1

    def told(self, stay):
        return (0, list(self.stays[stay])) if stay in self.stays else -3

    def income(self):
        return (len(self.stays), [sum(price for start, end, price in self.stays.values())])
