"""Rows of calls by a fixed row of chances, answered by the program and by the slow desk."""

import random
import unittest

from tests.helper import (CHOOSE, LARGEST, PRICES, SlowDesk, ask, begin, book, cancel, change, offer,
                          withdraw)


def some_price(chance):
    return chance.choice([0, 1, 1, 2, 3, 4, 5, chance.randint(1, 1000000), 1000000, 1000001, LARGEST])


def some_span(chance, nights):
    """Mostly a stay's nights, now and then not."""
    start = chance.randint(0, nights)
    end = min(start + chance.randint(0, nights), nights + chance.randint(0, 1))
    return (start, end) if chance.random() < 0.97 else (chance.choice([0, LARGEST]), chance.choice([0, LARGEST]))


def some_call(chance, nights):
    start, end = some_span(chance, nights)
    stay = chance.choice([chance.randint(0, 12), chance.randint(0, 45), LARGEST])
    kind = chance.choice("bbbbbccceeeooooowhp")
    return {"b": book(start, end, some_price(chance)), "c": cancel(stay), "e": change(stay, start, end),
            "o": offer(start, end, some_price(chance)), "w": withdraw(chance.randint(0, 11)), "h": CHOOSE,
            "p": PRICES}[kind]


def some_calls(chance, how_many):
    rooms, nights = chance.randint(1, 8), chance.choice([1, 2, 3, 5, 8])
    calls = [begin(rooms, nights)]
    while len(calls) < how_many:
        if chance.random() < 0.015:
            rooms, nights = chance.randint(0, 9), chance.choice([1, 4, 6, 60, 61])
            calls.append(begin(rooms, nights))
        else:
            calls.append(some_call(chance, min(nights, 8)))
    return calls


class AgainstSlowDesk(unittest.TestCase):
    def test_the_same_answers(self):
        for turn in range(120):
            calls = some_calls(random.Random(turn), 60)
            slow = SlowDesk()
            self.assertEqual(ask(*calls), [slow.ask(call) for call in calls], turn)

    def test_ten_offers_on_a_full_house(self):
        for turn in range(40):
            chance = random.Random(1000 + turn)
            nights = chance.randint(4, 20)
            calls = [begin(chance.randint(1, 3), nights)]
            for made in range(chance.randint(0, 4)):
                start = chance.randint(0, nights - 1)
                calls.append(book(start, chance.randint(start + 1, nights)))
            for made in range(10):
                start = chance.randint(0, nights - 1)
                calls.append(offer(start, chance.randint(start + 1, nights), chance.randint(1, 6)))
            calls += [CHOOSE, PRICES]
            slow = SlowDesk()
            self.assertEqual(ask(*calls), [slow.ask(call) for call in calls], turn)


if __name__ == "__main__":
    unittest.main()
