"""rooms and night: P2, who has which room, and the refusals of these calls."""

import random
import unittest

from tests.helper import (LARGEST, ROOMS, SETTLE, ask, begin, book, cancel, change, last, night, number, offer, told)


def rooms_told(*calls):
    answered, row = last(*calls, ROOMS)
    assert answered == 0
    return row


def nights_told(nights, *calls):
    """The rows of all nights, each with the stays' numbers plus 1."""
    answered = ask(*calls, *[night(n) for n in range(nights)])[len(calls):]
    assert [row[0] for row in answered] == [0] * nights
    return [row[1] for row in answered]


class Rooms(unittest.TestCase):
    def test_no_stay(self):
        self.assertEqual(last(begin(3, 2), ROOMS), number(0))
        self.assertEqual(nights_told(2, begin(3, 2)), [[0, 0, 0], [0, 0, 0]])

    def test_the_least_room_that_is_not_had(self):
        made = [begin(3, 5), book(0, 2), book(1, 4), book(1, 3), book(3, 5)]
        self.assertEqual(rooms_told(*made), [0, 1, 2, 0])
        self.assertEqual(nights_told(5, *made), [[1, 0, 0], [1, 2, 3], [0, 2, 3], [4, 2, 0], [4, 0, 0]])

    def test_in_the_order_of_their_first_nights_not_of_their_numbers(self):
        made = [begin(3, 5), book(2, 4), book(1, 3), book(0, 3)]
        self.assertEqual(rooms_told(*made), [2, 1, 0])
        self.assertEqual(nights_told(5, *made), [[3, 0, 0], [3, 2, 0], [3, 2, 1], [0, 0, 1], [0, 0, 0]])

    def test_stays_of_one_first_night_by_their_numbers(self):
        # Neither by their last nights nor by their prices.
        made = [begin(4, 5), book(1, 3, 4), book(1, 5, 9), book(1, 2, 1), book(1, 4, 6)]
        self.assertEqual(rooms_told(*made), [0, 1, 2, 3])
        self.assertEqual(nights_told(5, *made), [[0, 0, 0, 0], [1, 2, 3, 4], [1, 2, 0, 4], [0, 2, 0, 4], [0, 2, 0, 0]])

    def test_a_room_that_becomes_free_is_had_again(self):
        self.assertEqual(rooms_told(begin(2, 4), book(0, 1), book(1, 2), book(2, 4)), [0, 0, 0])
        made = [begin(2, 4), book(0, 2), book(0, 3), book(2, 4), book(3, 4)]
        self.assertEqual(rooms_told(*made), [0, 1, 0, 1])
        self.assertEqual(nights_told(4, *made), [[1, 2], [1, 2], [3, 2], [3, 4]])

    def test_the_least_room_though_it_was_free_for_long(self):
        made = [begin(3, 6), book(0, 1), book(0, 6), book(0, 2), book(5, 6)]
        self.assertEqual(rooms_told(*made), [0, 1, 2, 0])

    def test_whoever_is_booked_later_may_change_who_has_which_room(self):
        made = [begin(2, 4), book(1, 3), book(2, 4)]
        self.assertEqual(rooms_told(*made), [0, 1])
        self.assertEqual(rooms_told(*made, book(0, 2)), [1, 0, 0])
        self.assertEqual(nights_told(4, *made, book(0, 2)), [[3, 0], [3, 1], [2, 1], [2, 0]])

    def test_a_cancelled_stay(self):
        made = [begin(3, 4), book(0, 3), book(0, 4), book(1, 4), cancel(0)]
        self.assertEqual(rooms_told(*made), [3, 0, 1])
        self.assertEqual(nights_told(4, *made), [[2, 0, 0], [2, 3, 0], [2, 3, 0], [2, 3, 0]])
        self.assertEqual(rooms_told(*made, cancel(2), cancel(1)), [3, 3, 3])
        self.assertEqual(nights_told(4, *made, cancel(2), cancel(1)), [[0, 0, 0]] * 4)
        self.assertEqual(rooms_told(*made, book(0, 4)), [3, 0, 2, 1])
        for rooms in (1, 2, 8):
            self.assertEqual(rooms_told(begin(rooms, 1), book(0, 1), cancel(0)), [rooms])

    def test_a_stay_that_is_changed(self):
        made = [begin(2, 5), book(0, 3), book(1, 4)]
        self.assertEqual(rooms_told(*made), [0, 1])
        self.assertEqual(rooms_told(*made, change(0, 2, 5)), [1, 0])
        self.assertEqual(nights_told(5, *made, change(0, 2, 5)), [[0, 0], [2, 0], [2, 1], [2, 1], [0, 1]])
        # Of one first night now: by their numbers, whichever was changed last.
        self.assertEqual(rooms_told(*made, change(0, 1, 2)), [0, 1])
        self.assertEqual(rooms_told(*made, change(1, 0, 1)), [0, 1])
        self.assertEqual(rooms_told(*made, change(1, 3, 5)), [0, 0])

    def test_a_settled_stay(self):
        made = [begin(2, 5), book(1, 3), offer(3, 5, 4), offer(0, 2, 9), SETTLE]
        self.assertEqual(rooms_told(*made), [1, 0, 0])
        self.assertEqual(nights_told(5, *made), [[3, 0], [3, 1], [0, 1], [2, 0], [2, 0]])

    def test_offers_have_no_room(self):
        made = [begin(2, 2), offer(0, 2, 4), book(0, 1), offer(0, 1, 4)]
        self.assertEqual(rooms_told(*made), [0])
        self.assertEqual(nights_told(2, *made), [[1, 0], [0, 0]])

    def test_a_full_house(self):
        made = [begin(8, 60)] + [book(n, 60) for n in range(7, -1, -1)]
        self.assertEqual(rooms_told(*made), list(range(7, -1, -1)))
        self.assertEqual(last(*made, night(59)), (0, list(range(8, 0, -1))))
        self.assertEqual(last(*made, night(0)), (0, [8] + [0] * 7))

    def test_40_stays(self):
        made = [begin(1, 60)] + [book(n, n + 1) for n in range(40)]
        self.assertEqual(rooms_told(*made), [0] * 40)
        self.assertEqual(rooms_told(*made, *[cancel(n) for n in range(40)]), [1] * 40)
        self.assertEqual(last(*made, night(39)), (0, [40]))
        self.assertEqual(last(*made, night(40)), (0, [0]))


class Night(unittest.TestCase):
    def test_which_nights_there_are(self):
        for nights in (1, 2, 60):
            for n, answered in ((0, (0, [1, 0])), (nights - 1, (0, [1, 0])), (nights, number(-1)),
                                (nights + 1, number(-1)), (LARGEST, number(-1))):
                self.assertEqual(last(begin(2, nights), book(0, nights), night(n)), answered, (nights, n))

    def test_a_stay_has_its_first_night_and_not_its_last_evening(self):
        self.assertEqual(nights_told(5, begin(1, 5), book(2, 4)), [[0], [0], [1], [1], [0]])


class OneRoomAllThrough(unittest.TestCase):
    def busy(self, chance):
        rooms, nights = chance.randint(1, 8), chance.randint(1, 12)
        calls = [begin(rooms, nights)]
        for made in range(60):
            start = chance.randint(0, nights - 1)
            end = chance.randint(start + 1, min(nights, start + 4))
            calls.append(chance.choice([book(start, end)] * 4 + [offer(start, end, 5), cancel(chance.randint(0, 30)),
                                       change(chance.randint(0, 30), start, end), SETTLE]))
        return rooms, nights, calls

    def test_both_calls_tell_the_same_rooms(self):
        for turn in range(100):
            rooms, nights, calls = self.busy(random.Random(turn))
            has = rooms_told(*calls)
            rows = nights_told(nights, *calls)
            self.assertEqual([len(row) for row in rows], [rooms] * nights)
            for stay, (answered, row) in enumerate(ask(*calls, *[told(n) for n in range(len(has))])[len(calls):]):
                if answered == 0:
                    found = [(n, room) for n in range(nights) for room in range(rooms) if rows[n][room] == stay + 1]
                    self.assertEqual(found, [(n, has[stay]) for n in range(row[0], row[1])], (turn, stay))
                else:
                    self.assertEqual(has[stay], rooms, (turn, stay))
                    self.assertNotIn(stay + 1, sum(rows, []))


if __name__ == "__main__":
    unittest.main()
