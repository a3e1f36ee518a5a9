"""Lists of rules: their heads, their words, the rules of a name, and numbers told of them by anybody."""


def heads_of(rules):
    return list(dict([(head, True) for head, parts in rules]))


def words_in(rules):
    heads = dict([(head, True) for head, parts in rules])
    words = {}
    for head, parts in rules:
        for part in parts:
            if part not in heads:
                words[part] = True
    return list(words)


def numbers_of(rules, name):
    return [number for number, rule in enumerate(rules) if rule[0] == name]


# For each name the numbers of its rules, rising.
def numbers_by_name(rules):
    numbers = dict([(name, []) for name in heads_of(rules)])
    for number, rule in enumerate(rules):
        numbers[rule[0]].append(number)
    return numbers


# For each part the tuples (rule, place) where it stands.
def standings_by_part(rules):
    standings = {}
    for number, rule in enumerate(rules):
        for place, part in enumerate(rule[1]):
            standings.setdefault(part, []).append((number, place))
    return standings


def is_rule_of(rules, number, name):
    return is_number_below(number, len(rules)) and rules[number][0] == name


# A truth is an int in Python, but no whole number here.
def is_number_below(number, many):
    return isinstance(number, int) and not isinstance(number, bool) and 0 <= number < many
