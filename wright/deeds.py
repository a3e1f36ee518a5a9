"""The deeds of a plan, and where they clash."""

from wright.places import part_at
from wright.rules import heads_of


def deeds_of(grammar, plan):
    heads = dict([(head, True) for head in heads_of(grammar.rules)])
    deeds = [(room, part, ("step", to)) for room, part, to in plan[1] if part not in heads]
    for room, places in enumerate(plan[0]):
        deeds.extend([(room,) + deed_at_end(grammar, place) for place in places if part_at(grammar, place) is None])
    return sorted(set(deeds))


# The word and the deed of a place with its dot behind all parts.
def deed_at_end(grammar, place):
    if place[0] == len(grammar.rules):
        return ("", ("done",))
    return (place[2], ("make", place[0]))


def clashes_of(deeds):
    told = {}
    for room, word, deed in sorted(set(deeds)):
        told.setdefault((room, word), []).append(deed)
    return [(pair[0], pair[1], found) for pair, found in told.items() if len(found) > 1]
