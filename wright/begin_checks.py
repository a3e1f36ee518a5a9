"""The checkers of empties and begins told by anybody.

They only look up what is told, and share nothing with what finds it.
"""

from wright.rules import heads_of, is_number_below, is_rule_of


def empties_stand(rules, told):
    ahead = {}
    for name, number in told:
        if name in ahead or not is_rule_of(rules, number, name):
            return False
        if not all([part in ahead for part in rules[number][1]]):
            return False
        ahead[name] = True
    return True


def empties_lack(rules, names):
    empty = dict([(name, True) for name in names])
    for number, rule in enumerate(rules):
        if rule[0] not in empty and all([part in empty for part in rule[1]]):
            return number
    return None


def begins_stand(rules, names, told):
    heads = dict([(name, True) for name in heads_of(rules)])
    empty = dict([(name, True) for name in names])
    ahead = {}
    for name, word, number, place in told:
        if (name, word) in ahead or not is_rule_of(rules, number, name):
            return False
        parts = rules[number][1]
        if not is_number_below(place, len(parts)) or not all([part in empty for part in parts[:place]]):
            return False
        itself = parts[place] == word and word not in heads
        if not itself and (parts[place], word) not in ahead:
            return False
        ahead[(name, word)] = True
    return True


def begins_lack(rules, names, pairs):
    empty = dict([(name, True) for name in names])
    told = words_told(rules, pairs)
    for number, rule in enumerate(rules):
        for place, part in enumerate(rule[1]):
            words = list(told[part]) if part in told else [part]
            lacking = [word for word in words if word not in told[rule[0]]]
            if lacking:
                return (number, place, min(lacking))
            if part not in empty:
                break
    return None


# For each name the words that it is told with, as keys.
def words_told(rules, pairs):
    told = dict([(name, {}) for name in heads_of(rules)])
    for name, word in pairs:
        # What is told of a text that is no head is never asked: such a part is a word.
        if name in told:
            told[name][word] = True
    return told
