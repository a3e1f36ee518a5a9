"""Loops: trees that have below them a tree of the same name with the same row.

All on the way from the one tree to the other has this row too, so the trees beside the way have
no words: a loop is a way back to its first name by parts beside which all can be empty.
"""

from wright.begin_tables import found_empties
from wright.rules import heads_of


# The shortest list of steps that leads back to its first name; [] where there is none.
def find_loop(rules):
    steps = steps_with_like_rows(rules)
    loops = [way_back(rules, steps, name) for name in steps]
    return min([loop for loop in loops if loop], key=len, default=[])


# For each name the tuples (rule, place) of its rules where the part is a name and all others can be empty.
def steps_with_like_rows(rules):
    empty = dict(found_empties(rules))
    steps = dict([(name, []) for name in heads_of(rules)])
    for number, rule in enumerate(rules):
        filled = [place for place, part in enumerate(rule[1]) if part not in empty]
        for place, part in enumerate(rule[1]):
            if part in steps and filled in ([], [place]):
                steps[rule[0]].append((number, place))
    return steps


# Ways are walked by their length, so the first one back is a shortest, and none meets a name twice.
def way_back(rules, steps, name):
    ways = [(name, [])]
    met = {}
    at = 0
    while at < len(ways):
        way = ways[at][1]
        for number, place in steps[ways[at][0]]:
            part = rules[number][1][place]
            if part == name:
                return way + [(number, place)]
            if part not in met:
                met[part] = True
                ways.append((part, way + [(number, place)]))
        at += 1
    return []
