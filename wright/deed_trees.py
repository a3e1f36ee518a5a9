"""The tree whose deeds anybody tells, where there is one."""

from wright.rules import heads_of, is_number_below


def tree_of(rules, deeds):
    if deeds[-1:] != [("done",)]:
        return None
    heads = dict([(head, True) for head in heads_of(rules)])
    pile = []
    for deed in deeds[:-1]:
        if not do_deed(rules, heads, pile, deed):
            return None
    return pile[0] if len(pile) == 1 and not isinstance(pile[0], str) else None


# Does a step or a make on the pile of words and trees; tells whether it is one that can be done there.
def do_deed(rules, heads, pile, deed):
    if len(deed) != 2:
        return False
    if deed[0] == "step":
        return do_step(heads, pile, deed[1])
    return deed[0] == "make" and do_make(rules, heads, pile, deed[1])


def do_step(heads, pile, word):
    if not isinstance(word, str) or word in heads:
        return False
    pile.append(word)
    return True


def do_make(rules, heads, pile, number):
    if not is_number_below(number, len(rules)):
        return False
    children = []
    for part in rules[number][1][::-1]:
        if not pile or not is_child(rules, heads, pile[-1], part):
            return False
        children.append(pile.pop())
    pile.append((number, tuple(children[::-1])))
    return True


def is_child(rules, heads, child, part):
    if part in heads:
        return not isinstance(child, str) and rules[child[0]][0] == part
    return child == part
