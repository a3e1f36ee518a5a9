"""The rooms of a grammar, and the steps between them."""

from wright.errors import TooMany
from wright.places import closed_list, part_at

MOST_ROOMS = 120
MOST_PLACES = 300


def rooms_of(grammar):
    first = ((len(grammar.rules), 0, ""),)
    rooms = [closed_room(grammar, first)]
    # By the places that a room was closed from: closing adds places with their dots at 0 alone, so
    # rooms are alike just where these are.
    numbers = {first: 0}
    steps = []
    at = 0
    while at < len(rooms):
        moved = moved_by_part(grammar, rooms[at])
        for part in sorted(moved):
            kernel = tuple(moved[part])
            if kernel not in numbers:
                if len(rooms) == MOST_ROOMS:
                    raise TooMany()
                numbers[kernel] = len(rooms)
                rooms.append(closed_room(grammar, kernel))
            steps.append((at, part, numbers[kernel]))
        at += 1
    return (rooms, steps)


def closed_room(grammar, places):
    room = closed_list(grammar, places)
    if len(room) > MOST_PLACES:
        raise TooMany()
    return room


# For each part at a dot of the room the places there, with their dots one on.
def moved_by_part(grammar, room):
    moved = {}
    for place in room:
        part = part_at(grammar, place)
        if part is not None:
            moved.setdefault(part, []).append((place[0], place[1] + 1, place[2]))
    return moved
