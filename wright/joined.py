"""Plans joined: rooms with like cores become one, and the clashes that come by it."""

from wright.deeds import clashes_of, deeds_of


def joined_plan(plan):
    numbers = joined_numbers(plan[0])
    rooms = [[] for number in sorted(set(numbers))]
    for number, room in zip(numbers, plan[0]):
        rooms[number].extend(room)
    steps = [(numbers[room], part, numbers[to]) for room, part, to in plan[1]]
    return (([sorted(set(room)) for room in rooms], sorted(set(steps))), numbers)


# Room by room the number of its core, cores being numbered as they are first met.
def joined_numbers(rooms):
    known = {}
    return [known.setdefault(core_of(room), len(known)) for room in rooms]


def core_of(room):
    return tuple(sorted(set([place[:2] for place in room])))


def join_clashes(grammar, plan):
    joined = joined_plan(plan)
    numbers = joined[1]
    steps = [(room, part, numbers[to]) for room, part, to in plan[1]]
    in_one_room = {}
    for room, word, one, other in deed_pairs(deeds_of(grammar, (plan[0], steps))):
        in_one_room[(numbers[room], word, one, other)] = True
    return [pair for pair in deed_pairs(deeds_of(grammar, joined[0])) if pair not in in_one_room]


# Each two deeds of one room and word, all in their order.
def deed_pairs(deeds):
    pairs = []
    for room, word, clash in clashes_of(deeds):
        for at, one in enumerate(clash):
            pairs.extend([(room, word, one, other) for other in clash[at + 1:]])
    return pairs
