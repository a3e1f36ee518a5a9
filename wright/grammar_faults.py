"""The refusals of grammars. Each is asked only where those ahead of it don't hold."""

from wright.errors import Endless, Loop, NoRules, Twice, Unmet, Vast
from wright.loops import find_loop
from wright.rules import heads_of
from wright.tree_sizes import greatest_empty_sizes, least_sizes

MOST_RULES = 60


def refuse_faults(rules, strengths):
    if not rules:
        raise NoRules()
    refuse_twice(strengths)
    least = least_sizes(rules)
    endless = [name for name in heads_of(rules) if name not in least]
    if endless:
        raise Endless(endless)
    met = names_met(rules)
    unmet = [name for name in heads_of(rules) if name not in met]
    if unmet:
        raise Unmet(unmet)
    steps = find_loop(rules)
    if steps:
        raise Loop(steps)
    greatest = greatest_empty_sizes(rules)
    vast = [name for name in heads_of(rules) if max(least[name], greatest.get(name, 0)) > MOST_RULES]
    if vast:
        raise Vast(vast)


def refuse_twice(strengths):
    met = {}
    for way, words in strengths:
        for word in words:
            if word in met:
                raise Twice(word)
            met[word] = True


# Where each name has a tree, each part that rules lead to from the start is in a tree of the start.
def names_met(rules):
    met = {rules[0][0]: True}
    many = 0
    while many < len(met):
        many = len(met)
        for head, parts in rules:
            if head in met:
                met.update([(part, True) for part in parts])
    return met
