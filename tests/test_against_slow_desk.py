"""Rows of calls by a fixed row of chances, answered by the program and by the slow desk."""

import random
import unittest

from tests.helper import (CHOOSE, INCOME, LARGEST, PRICES, ROOMS, SETTLE, SlowDesk, ask, begin, book, cancel, change,
                          first, free, night, offer, told, until, withdraw)


def mostly(chance, usual, edges):
    """One of the usual values, now and then one of the edges."""
    return chance.choice(usual) if chance.random() < 0.93 else chance.choice(edges)


def some_price(chance):
    return mostly(chance, [1, 2, 3, 4, 5, chance.randint(1, 1000000)], [0, 1000000, 1000001, LARGEST])


def some_span(chance, nights):
    """Mostly a stay's nights, now and then not."""
    start = chance.randint(0, nights - 1)
    end = chance.randint(start + 1, nights)
    return mostly(chance, [(start, end)], [(start, start), (end, start), (start, nights + 1), (0, LARGEST),
                                           (LARGEST, LARGEST), (LARGEST, 0)])


def some_call(chance, nights):
    start, end = some_span(chance, nights)
    stay = mostly(chance, [chance.randint(0, 5), chance.randint(0, 15)], [chance.randint(0, 45), LARGEST])
    n = mostly(chance, range(nights), [nights, nights + 1, LARGEST])
    how_many = mostly(chance, range(1, nights + 1), [0, nights + 1, LARGEST])
    kind = chance.choice("bbbbbbbbcceeeoooooooooowhhppsrrrnnnffiiiiuuttta")
    return {"b": book(start, end, some_price(chance)), "c": cancel(stay), "e": change(stay, start, end),
            "o": offer(start, end, some_price(chance)), "w": withdraw(chance.randint(0, 5)), "h": CHOOSE,
            "p": PRICES, "s": SETTLE, "r": ROOMS, "n": night(n), "f": free(n), "i": first(how_many, n),
            "u": until(n), "t": told(stay), "a": INCOME}[kind]


def some_calls(chance, how_many):
    rooms, nights = chance.randint(1, 8), chance.choice([1, 2, 3, 5, 8])
    calls = [begin(rooms, nights)]
    while len(calls) < how_many:
        if chance.random() < 0.015:
            rooms, nights = chance.randint(0, 9), chance.choice([1, 4, 6, 60, 61])
            calls.append(begin(rooms, nights))
        else:
            calls.append(some_call(chance, min(nights, 8)))
    return calls


class AgainstSlowDesk(unittest.TestCase):
    def test_the_same_answers(self):
        for turn in range(120):
            calls = some_calls(random.Random(turn), 120)
            slow = SlowDesk()
            self.assertEqual(ask(*calls), [slow.ask(call) for call in calls], turn)

    def test_ten_offers_on_a_full_house(self):
        for turn in range(40):
            chance = random.Random(1000 + turn)
            nights = chance.randint(4, 20)
            calls = [begin(chance.randint(1, 3), nights)]
            for made in range(chance.randint(0, 4)):
                start = chance.randint(0, nights - 1)
                calls.append(book(start, chance.randint(start + 1, nights)))
            for made in range(10):
                start = chance.randint(0, nights - 1)
                calls.append(offer(start, chance.randint(start + 1, nights), chance.randint(1, 6)))
            calls += [CHOOSE, PRICES, SETTLE, ROOMS, INCOME] + [night(n) for n in range(nights)] + [CHOOSE, PRICES]
            slow = SlowDesk()
            self.assertEqual(ask(*calls), [slow.ask(call) for call in calls], turn)

    def test_40_stays_booked_settled_changed_and_cancelled(self):
        for turn in range(40):
            chance = random.Random(2000 + turn)
            nights = chance.randint(20, 60)
            calls = [begin(chance.randint(2, 8), nights)]
            for made in range(130):
                start = chance.randint(0, nights - 1)
                end = min(nights, start + chance.randint(1, 12))
                calls.append(chance.choice([book(start, end, made), book(start, end, made), offer(start, end, made + 1),
                                            change(chance.randint(0, 30), start, end), cancel(chance.randint(0, 30)),
                                            SETTLE]))
                if made % 5 == 0:
                    calls += [ROOMS, INCOME, first(chance.randint(1, 9), start), night(start)]
            calls += [night(n) for n in range(nights)]
            slow = SlowDesk()
            self.assertEqual(ask(*calls), [slow.ask(call) for call in calls], turn)


if __name__ == "__main__":
    unittest.main()
