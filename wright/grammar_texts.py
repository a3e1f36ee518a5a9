"""Grammars read from texts."""

from wright.errors import NoRow
from wright.grammars import Grammar

WAYS = ("left", "right", "none")
MARKS = ("*", "+", "?")
MOST_SIGNS = 14


def read_grammar(text):
    rules = []
    strengths = []
    for number, row in enumerate(text.split("\n"), start=1):
        words = [word for word in row.split(" ") if word]
        if words and not words[0].startswith("#") and not read_row(words, rules, strengths):
            raise NoRow(number)
    return Grammar(with_added_rules(rules), strengths)


# Whether the row tells rules or a strength; what it tells is put behind those told ahead of it.
def read_row(words, rules, strengths):
    if words[0] == "|":
        # Each row that tells rules tells one at least, so the last rule has the head last told.
        return bool(rules) and read_rules(rules[-1][0], words[1:], rules)
    if words[1:2] == [":"]:
        return is_part(words[0]) and not comes_again(words[0]) and read_rules(words[0], words[2:], rules)
    if words[0] in WAYS and len(words) > 1 and all([is_part(word) for word in words[1:]]):
        strengths.append((words[0], tuple(words[1:])))
        return True
    return False


def read_rules(head, words, rules):
    rows = [[]]
    for word in words:
        if word == "|":
            rows.append([])
        elif is_part(word):
            rows[-1].append(word)
        else:
            return False
    rules.extend([(head, tuple(parts)) for parts in rows])
    return True


def is_part(word):
    return len(word) <= MOST_SIGNS and word.rstrip("".join(MARKS)) not in (":", "|")


def comes_again(part):
    return len(part) > 1 and part[-1] in MARKS


# The rules that are added are gone through too: what comes again may itself have a part that does.
def with_added_rules(rules):
    every = list(rules)
    added = {}
    at = 0
    while at < len(every):
        for part in every[at][1]:
            if comes_again(part) and part not in added:
                added[part] = True
                every.extend(rules_again(part))
        at += 1
    return every


def rules_again(part):
    once = part[:-1]
    if part[-1] == "*":
        return [(part, ()), (part, (part, once))]
    if part[-1] == "+":
        return [(part, (once,)), (part, (part, once))]
    return [(part, ()), (part, (once,))]
