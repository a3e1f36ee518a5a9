"""Trees: their rows, and whether what anybody tells as a tree is one.

Both walk with a list of what is still to be looked at, since trees may be deep.
"""

from wright.rules import heads_of, is_rule_of


def row_of(tree):
    row = []
    waiting = [tree]
    while waiting:
        one = waiting.pop()
        if isinstance(one, str):
            row.append(one)
        else:
            waiting.extend(one[1][::-1])
    return row


def tree_stands(rules, tree, name):
    heads = dict([(head, True) for head in heads_of(rules)])
    if name not in heads:
        return False
    waiting = [(tree, name)]
    while waiting:
        pair = waiting.pop()
        if pair[1] in heads:
            if not is_top_of(rules, pair[0], pair[1]):
                return False
            waiting.extend(list(zip(pair[0][1], rules[pair[0][0]][1])))
        elif pair[0] != pair[1]:
            return False
    return True


# Whether it is a rule of the name with as many children as parts, whatever these are.
def is_top_of(rules, tree, name):
    if isinstance(tree, str) or not is_rule_of(rules, tree[0], name):
        return False
    return len(tree[1]) == len(rules[tree[0]][1])
