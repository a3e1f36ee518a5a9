"""Small trees of names: least ones, ones of no words, and ones whose rows begin with a word."""

from wright.begin_tables import first_places
from wright.rules import heads_of, numbers_by_name
from wright.tree_sizes import least_sizes


# By part: of a name a tree of as few rules as can be, of a word the word itself.
def least_by_part(rules):
    sizes = least_sizes(rules)
    numbers = numbers_by_name(rules)
    trees = dict([(part, part) for part in sizes if part not in numbers])
    # A least tree is larger than each tree in it, so these are made ahead of it.
    for name in sorted(heads_of(rules), key=lambda head: sizes[head]):
        least = [number for number in numbers[name] if rule_size(sizes, rules[number]) == sizes[name]]
        trees[name] = (least[0], tuple([trees[part] for part in rules[least[0]][1]]))
    return trees


def rule_size(sizes, rule):
    return 1 + sum([sizes[part] for part in rule[1]])


# By name, for those that can be empty, a tree of no words.
def empty_by_name(rules, empties):
    trees = {}
    for name, number in empties:
        trees[name] = (number, tuple([trees[part] for part in rules[number][1]]))
    return trees


class LeastTrees:
    def __init__(self, rules, begin_table):
        self.rules = rules
        self.empty = begin_table.empty
        self.least = least_by_part(rules)
        self.hollow = empty_by_name(rules, begin_table.empties)
        self.beginnings = dict([((name, word), (number, place)) for name, word, number, place in begin_table.begins])

    def least_of(self, parts):
        return [self.least[part] for part in parts]

    def hollow_of(self, parts):
        return [self.hollow[part] for part in parts]

    # The first place by which the word begins these parts; None where it doesn't.
    def begun_place(self, parts, word):
        for place in first_places(parts, self.empty):
            if parts[place] == word or (parts[place], word) in self.beginnings:
                return place
        return None

    # Trees of these parts whose row begins with the word, by their part at this place. Each name within is
    # one told ahead in the begins: so it goes no deeper than there are names.
    def begun_of(self, parts, word, place):
        child = word
        if parts[place] != word:
            beginning = self.beginnings[(parts[place], word)]
            child = (beginning[0], tuple(self.begun_of(self.rules[beginning[0]][1], word, beginning[1])))
        return self.hollow_of(parts[:place]) + [child] + self.least_of(parts[place + 1:])
