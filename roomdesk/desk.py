"""The desk and its calls."""

from roomdesk.choice import best_choice
from roomdesk.prices import night_prices
from roomdesk.rooms import room_of_each, stay_in_each
from roomdesk.stays import Stay, first_full, first_in_a_row, fits, free_in_a_row, free_rooms

MOST_ROOMS = 8
MOST_NIGHTS = 60
MOST_PRICE = 1000000
MOST_STAY_NUMBERS = 40
MOST_OFFER_NUMBERS = 10

NO_SUCH_VALUE = -1
NOT_BEGUN = -2
NO_SUCH_NUMBER = -3
NO_ROOM = -4
NONE_FOUND = -5
USED_UP = -9

# How many numbers stand behind each call's own number; no call has the number 0.
HOW_MANY = (0, 2, 3, 1, 3, 3, 1, 0, 0, 0, 0, 1, 1, 2, 1, 1, 0)


class Desk:
    """What is kept from call to call. It has no rooms until it's begun."""

    def __init__(self):
        self.rooms = 0
        self.nights = 0
        # A cancelled stay or a withdrawn offer leaves None, so that its number is not used again.
        self.stays = []
        self.offers = []


def answer(number, row):
    return [number, len(row)] + row


def is_stay(desk, stay):
    """Whether the desk may have such a stay, be there room for it or not."""
    return stay.start < stay.end and stay.end <= desk.nights and stay.price <= MOST_PRICE


def has_number(listed, number):
    return number < len(listed) and listed[number] is not None


def free_now(desk):
    """The rooms free on each night."""
    return free_rooms(desk.rooms, desk.nights, desk.stays)


def strike(listed, number):
    """Take a stay or an offer out, by its number."""
    if not has_number(listed, number):
        return answer(NO_SUCH_NUMBER, [])
    listed[number] = None
    return answer(0, [])


def begin(desk, rooms, nights):
    if rooms < 1 or rooms > MOST_ROOMS or nights < 1 or nights > MOST_NIGHTS:
        return answer(NO_SUCH_VALUE, [])
    desk.rooms = rooms
    desk.nights = nights
    desk.stays = []
    desk.offers = []
    return answer(0, [])


def book(desk, stay):
    if not is_stay(desk, stay):
        return answer(NO_SUCH_VALUE, [])
    free = free_now(desk)
    if not fits(free, stay):
        return answer(NO_ROOM, [first_full(free, stay)])
    if len(desk.stays) == MOST_STAY_NUMBERS:
        return answer(USED_UP, [])
    desk.stays.append(stay)
    return answer(len(desk.stays) - 1, [])


def change(desk, number, start, end):
    if not has_number(desk.stays, number):
        return answer(NO_SUCH_NUMBER, [])
    stay = Stay(start, end, desk.stays[number].price)
    if not is_stay(desk, stay):
        return answer(NO_SUCH_VALUE, [])
    others = desk.stays[:number] + desk.stays[number + 1:]
    free = free_rooms(desk.rooms, desk.nights, others)
    if not fits(free, stay):
        return answer(NO_ROOM, [first_full(free, stay)])
    desk.stays[number] = stay
    return answer(0, [])


def offer(desk, stay):
    if not is_stay(desk, stay) or stay.price == 0:
        return answer(NO_SUCH_VALUE, [])
    if len(desk.offers) == MOST_OFFER_NUMBERS:
        return answer(USED_UP, [])
    desk.offers.append(stay)
    return answer(len(desk.offers) - 1, [])


def chosen(desk):
    return best_choice(desk.offers, free_now(desk))


def choose(desk):
    choice = chosen(desk)
    return answer(choice.earned, choice.numbers)


def prices(desk):
    return answer(0, night_prices(desk.offers, chosen(desk)))


def settle(desk):
    numbers = chosen(desk).numbers
    if len(desk.stays) + len(numbers) > MOST_STAY_NUMBERS:
        return answer(USED_UP, [])
    desk.stays.extend([desk.offers[number] for number in numbers])
    desk.offers = []
    return answer(len(numbers), [])


def all_rooms(desk):
    return answer(0, room_of_each(desk.stays, desk.rooms))


def one_night(desk, night):
    if night >= desk.nights:
        return answer(NO_SUCH_VALUE, [])
    return answer(0, stay_in_each(desk.stays, desk.rooms, night))


def free_on(desk, night):
    if night >= desk.nights:
        return answer(NO_SUCH_VALUE, [])
    return answer(free_now(desk)[night], [])


def first(desk, how_many, start):
    if how_many == 0:
        return answer(NO_SUCH_VALUE, [])
    night = first_in_a_row(free_now(desk), how_many, start)
    if night is None:
        return answer(NONE_FOUND, [])
    return answer(night, [])


def until(desk, night):
    if night >= desk.nights:
        return answer(NO_SUCH_VALUE, [])
    return answer(free_in_a_row(free_now(desk), night), [])


def told(desk, number):
    if not has_number(desk.stays, number):
        return answer(NO_SUCH_NUMBER, [])
    stay = desk.stays[number]
    return answer(0, [stay.start, stay.end, stay.price])


def income(desk):
    earned = [stay.price for stay in desk.stays if stay is not None]
    return answer(len(earned), [sum(earned)])


def answer_on_stays(desk, call, numbers):
    """What is answered to a call that asks about stays, rooms and nights: those from 10 on."""
    if call == 10:
        return all_rooms(desk)
    if call == 11:
        return one_night(desk, numbers[0])
    if call == 12:
        return free_on(desk, numbers[0])
    if call == 13:
        return first(desk, numbers[0], numbers[1])
    if call == 14:
        return until(desk, numbers[0])
    if call == 15:
        return told(desk, numbers[0])
    return income(desk)


def answer_to(desk, call, numbers):
    """What is answered to one call, by its number and the numbers behind it."""
    if call == 1:
        return begin(desk, numbers[0], numbers[1])
    if desk.rooms == 0:
        return answer(NOT_BEGUN, [])
    if call == 2:
        return book(desk, Stay(numbers[0], numbers[1], numbers[2]))
    if call == 3:
        return strike(desk.stays, numbers[0])
    if call == 4:
        return change(desk, numbers[0], numbers[1], numbers[2])
    if call == 5:
        return offer(desk, Stay(numbers[0], numbers[1], numbers[2]))
    if call == 6:
        return strike(desk.offers, numbers[0])
    if call == 7:
        return choose(desk)
    if call == 8:
        return prices(desk)
    if call == 9:
        return settle(desk)
    return answer_on_stays(desk, call, numbers)


def answers(calls):
    """The answers to calls that stand one behind another, each with its length before it."""
    desk = Desk()
    given = []
    at = 0
    while at < len(calls):
        behind = at + 1 + HOW_MANY[calls[at]]
        row = answer_to(desk, calls[at], calls[at + 1:behind])
        given.append(len(row))
        given.extend(row)
        at = behind
    return given
