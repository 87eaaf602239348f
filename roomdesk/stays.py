"""Stays, and the rooms that they leave free."""


class Stay:
    """The nights from start on, up to end without it, and a price. An offer is one that's asked for."""

    def __init__(self, start, end, price):
        self.start = start
        self.end = end
        self.price = price


def with_stay(free, stay):
    """The rooms free on each night, when this stay is in too."""
    fewer = [rooms - 1 for rooms in free[stay.start:stay.end]]
    return free[:stay.start] + fewer + free[stay.end:]


def free_rooms(rooms, nights, stays):
    """The rooms free on each night. None among the stays is one that's gone."""
    free = [rooms] * nights
    for stay in stays:
        if stay is not None:
            free = with_stay(free, stay)
    return free


def fits(free, stay):
    """Whether a room's free on each of the stay's nights."""
    return 0 not in free[stay.start:stay.end]


def first_full(free, stay):
    """The first of the stay's nights on which no room's free. There must be one."""
    return free.index(0, stay.start)


def free_in_a_row(free, night):
    """How many nights in a row, from this one on, have a room free each."""
    end = night
    while end < len(free) and free[end] > 0:
        end += 1
    return end - night


def first_in_a_row(free, how_many, start):
    """The first night, from start on, that begins so many in a row with a room free each. None: there's no such."""
    for night in range(start, len(free)):
        if free_in_a_row(free, night) >= how_many:
            return night
    return None
