"""Which room each stay has."""


def in_their_order(stays):
    """The numbers of the stays in the order in which they come. None among the stays is one that's gone."""
    there = [(stay.start, number) for number, stay in enumerate(stays) if stay is not None]
    return [pair[1] for pair in sorted(there)]


def share_a_night(one, other):
    return one.start < other.end and other.start < one.end


def least_room(taken):
    """The least room that is not among those taken."""
    room = 0
    while room in taken:
        room += 1
    return room


def room_of_each(stays, gone):
    """The room of each stay by its number; for one that's gone the number that is told for it."""
    rooms = [gone] * len(stays)
    came = []
    for number in in_their_order(stays):
        taken = [rooms[other] for other in came if share_a_night(stays[other], stays[number])]
        rooms[number] = least_room(taken)
        came.append(number)
    return rooms


def stay_in_each(stays, rooms, night):
    """For each of so many rooms the number of the stay that has it on this night, plus 1; 0 for none."""
    had = [0] * rooms
    # The rooms are given out for all nights at once, so that a stay has the same one on each of its nights.
    for number, room in enumerate(room_of_each(stays, rooms)):
        stay = stays[number]
        if stay is not None and stay.start <= night < stay.end:
            had[room] = number + 1
    return had
