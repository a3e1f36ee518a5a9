"""How many rules the least trees of names have, and the greatest of their trees of no words."""

from wright.rules import words_in


# The number of rules of a least tree, by name, for the names that have a tree (and 0 by each word).
def least_sizes(rules):
    return settled_sizes(rules, dict([(word, 0) for word in words_in(rules)]), lambda size, known: size < known)


# The number of rules of a greatest tree of no words, by name, for the names that have one. To be asked
# of rules without a loop alone: a loop has no greatest.
def greatest_empty_sizes(rules):
    return settled_sizes(rules, {}, lambda size, known: size > known)


# Rounds through all rules, until a round makes no size better. A best tree has no name below itself,
# so there are at most as many rounds as names, and one.
def settled_sizes(rules, sizes, better):
    changed = True
    while changed:
        changed = False
        for head, parts in rules:
            if all([part in sizes for part in parts]):
                size = 1 + sum([sizes[part] for part in parts])
                if head not in sizes or better(size, sizes[head]):
                    sizes[head] = size
                    changed = True
    return sizes
