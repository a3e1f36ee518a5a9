"""Lists of rules: their heads, their words, and the rules of a name."""


def heads_of(rules):
    return list(dict([(head, True) for head, parts in rules]))


def words_in(rules):
    heads = dict([(head, True) for head, parts in rules])
    words = {}
    for head, parts in rules:
        for part in parts:
            if part not in heads:
                words[part] = True
    return list(words)


def numbers_of(rules, name):
    return [number for number, rule in enumerate(rules) if rule[0] == name]
