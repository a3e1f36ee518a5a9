"""The checkers of tables told by anybody: rules with a plan and deeds.

They only look up what is told, and share nothing with what makes it.
"""

from wright.rules import heads_of, is_number_below
from wright.told_tables import ToldTable, is_place, parts_of_all


def table_stands(rules, plan, deeds):
    if not rules or not plan[0]:
        return False
    every = parts_of_all(rules)
    return places_stand(every, plan[0]) and steps_stand(every, plan) and deeds_stand(rules, plan, deeds)


def places_stand(every, rooms):
    for number, room in enumerate(rooms):
        if not all([place_stands(every, number, place) for place in room]):
            return False
    return True


def place_stands(every, room, place):
    if not is_place(every, place) or (room == 0 and place[1] != 0):
        return False
    return place[0] < len(every) - 1 or (place[2] == "" and (room == 0 or place[1] != 0))


def steps_stand(every, plan):
    many = len(plan[0])
    for room, part, to in plan[1]:
        if not is_number_below(room, many) or not is_number_below(to, many) or to == 0:
            return False
    if len(set([step[:2] for step in plan[1]])) < len(plan[1]):
        return False
    cores = [dict([(place[:2], True) for place in room]) for room in plan[0]]
    return all([leads_on(every, cores[room], part, cores[to]) for room, part, to in plan[1]])


# Whether each dot in the core that a step leads to has come over the step's part.
def leads_on(every, core, part, next_core):
    for rule, dot in next_core:
        if dot > 0 and (every[rule][dot - 1] != part or (rule, dot - 1) not in core):
            return False
    return True


def deeds_stand(rules, plan, deeds):
    if len(set([told[:2] for told in deeds])) < len(deeds):
        return False
    # The rule behind all rules has the head "": that is no word either.
    heads = dict([(head, True) for head in heads_of(rules) + [""]])
    steps = dict([(step, True) for step in plan[1] if step[1] not in heads])
    rooms = [dict([(place, True) for place in room]) for room in plan[0]]
    return all([deed_stands(rules, steps, rooms, told) for told in deeds])


def deed_stands(rules, steps, rooms, told):
    room = told[0]
    word = told[1]
    deed = told[2]
    if not is_number_below(room, len(rooms)):
        return False
    if deed[0] == "step":
        return is_number_below(deed[1], len(rooms)) and (room, word, deed[1]) in steps
    if deed[0] == "make":
        return is_number_below(deed[1], len(rules)) and (deed[1], len(rules[deed[1]][1]), word) in rooms[room]
    return deed == ("done",) and word == "" and (len(rules), 1, "") in rooms[room]


def table_lacks(rules, names, pairs, plan, deeds):
    first = (len(rules), 0, "")
    if not plan[0] or first not in plan[0][0]:
        return ("begin", 0, first)
    table = ToldTable(rules, names, pairs, plan, deeds)
    for number, room in enumerate(plan[0]):
        for place in room:
            lack = table.lack_at(number, place)
            if lack is not None:
                return lack
    return None
