"""Clashes settled by the strengths of a grammar."""

from wright.deeds import clashes_of


def put_right(grammar, deeds):
    levels = levels_of(grammar.strengths)
    aside = {}
    for room, word, clash in clashes_of(deeds):
        for deed in put_aside(grammar, levels, word, clash):
            aside[(room, word, deed)] = True
    return ([deed for deed in sorted(set(deeds)) if deed not in aside], sorted(aside))


# By word or name the number of the strength in which it stands: the greater, the stronger.
def levels_of(strengths):
    levels = {}
    for level, strength in enumerate(strengths):
        for word in strength[1]:
            levels[word] = level
    return levels


def put_aside(grammar, levels, word, clash):
    # In their order a make comes ahead of a step.
    if [deed[0] for deed in clash] != ["make", "step"]:
        return []
    rule_level = level_of_rule(levels, grammar.rules[clash[0][1]])
    word_level = levels.get(word)
    if rule_level is None or word_level is None:
        return []
    if rule_level != word_level:
        return clash[1:] if rule_level > word_level else clash[:1]
    way = grammar.strengths[word_level][0]
    if way == "none":
        return clash
    return clash[1:] if way == "left" else clash[:1]


def level_of_rule(levels, rule):
    told = [levels[part] for part in rule[1] if part in levels]
    return told[-1] if told else None
