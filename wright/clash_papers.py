"""The deeds of trees, and papers of two deeds: two trees of the start whose deeds part there."""

from wright.paper_trees import PaperTrees
from wright.trees import tree_stands


# From the end on: each tree's own deed, and then its children from the last to the first.
def deeds_of_tree(tree):
    deeds = [("done",)]
    waiting = [tree]
    while waiting:
        one = waiting.pop()
        if isinstance(one, str):
            deeds.append(("step", one))
        else:
            deeds.append(("make", one[0]))
            waiting.extend(one[1])
    return deeds[::-1]


def paper_stands(rules, paper, word, one, other):
    if not rules or not all([tree_stands(rules, tree, rules[0][0]) for tree in paper]):
        return False
    deeds = deeds_of_tree(paper[0])
    others = deeds_of_tree(paper[1])
    apart = [at for at, pair in enumerate(zip(deeds, others)) if pair[0] != pair[1]]
    if not apart or not is_told(deeds[apart[0]], one) or not is_told(others[apart[0]], other):
        return False
    return next_word(deeds, apart[0]) == word and next_word(others, apart[0]) == word


# A truth is no whole number, though Python holds it equal to one.
def is_told(deed, told):
    return deed == told and not isinstance(told[-1], bool)


def next_word(deeds, at):
    words = [deed[1] for deed in deeds[at:] if deed[0] == "step"]
    return words[0] if words else ""


def clash_paper(grammar, plan, room, word, one, other):
    trees = PaperTrees(grammar, way_to(plan[1], room), word)
    return (trees.tree_with(one), trees.tree_with(other))


# The parts of a shortest way from room 0: rooms are numbered as they are found, so the first step to
# each leads back there.
def way_to(steps, room):
    leading = {}
    for step in steps:
        if step[2] not in leading:
            leading[step[2]] = step
    way = []
    while room != 0:
        way.append(leading[room][1])
        room = leading[room][0]
    return way[::-1]
