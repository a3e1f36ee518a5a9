"""Refusals of rows, and the checkers of sets of places told by anybody.

The checkers only look up what is told, and share nothing with what makes it.
"""

from wright.rules import is_number_below, numbers_by_name
from wright.sets import PlaceSets


def refusal_of(grammar, row):
    every = PlaceSets(grammar, row)
    if every.is_made():
        return None
    sets = every.told_sets()
    # Each name has a tree: so some row of the grammar goes on from each tuple that stands in a set.
    place = max([at for at, told in enumerate(sets) if told])
    return (place, sets[:place + 1])


def sets_lack(rules, beginning, sets):
    return ToldSets(rules, sets).lack_by(beginning)


def refusal_stands(rules, row, refusal):
    place = refusal[0]
    if not is_number_below(place, len(row) + 1) or len(refusal[1]) != place + 1:
        return False
    told = ToldSets(rules, refusal[1])
    return told.lack_by(row[:place]) is None and not told.goes_on_by(row[place:])


class ToldSets:
    def __init__(self, rules, sets):
        self.rules = rules
        self.numbers = numbers_by_name(rules)
        # Set by set the tuples that mean something, as keys; and by part those with this part at their dot.
        self.told = []
        self.askers = []
        for number, one in enumerate(sets):
            self.told.append(dict([(item, True) for item in one if self.means(item, number)]))
            self.askers.append(self.by_part(self.told[-1]))

    def means(self, item, number):
        if not is_number_below(item[0], len(self.rules)) or not is_number_below(item[2], number + 1):
            return False
        return is_number_below(item[1], len(self.rules[item[0]][1]) + 1)

    def by_part(self, items):
        found = {}
        for item in items:
            parts = self.rules[item[0]][1]
            if item[1] < len(parts):
                found.setdefault(parts[item[1]], []).append(item)
        return found

    # The first tuple that is wanting, with its set's number; None where there is none.
    def lack_by(self, beginning):
        for number, told in enumerate(self.told):
            wanted = self.first_tuples() if number == 0 else self.moved_by(number - 1, beginning[number - 1])
            for item in wanted + self.begun_in(number) + self.moved_by_whole(number):
                if item not in told:
                    return (number, item)
        return None

    def first_tuples(self):
        return [(number, 0, 0) for number in self.start_rules()]

    def start_rules(self):
        return [number for number, rule in enumerate(self.rules) if rule[0] == self.rules[0][0]]

    # What the word puts into the next set: a text that is a name is met by nothing.
    def moved_by(self, number, word):
        return [] if word in self.numbers else dots_on(self.askers[number].get(word, []))

    def begun_in(self, number):
        begun = []
        for part in self.askers[number]:
            begun.extend([(rule, 0, number) for rule in self.numbers.get(part, [])])
        return begun

    def moved_by_whole(self, number):
        moved = []
        for head, since in self.whole_in(number):
            moved.extend(dots_on(self.askers[since].get(head, [])))
        return moved

    # The names, each with the set's number since when, of the rules with their dots behind all parts, as keys:
    # rules of one name put in the same.
    def whole_in(self, number):
        whole = {}
        for rule, dot, since in self.told[number]:
            if dot == len(self.rules[rule][1]):
                whole[(self.rules[rule][0], since)] = True
        return whole

    # Whether the last set lets the row go on so: by its first word, or, without one, by its end.
    def goes_on_by(self, row):
        if row:
            return self.moved_by(len(self.told) - 1, row[0]) != []
        ends = [(number, len(self.rules[number][1]), 0) for number in self.start_rules()]
        return any([item in self.told[-1] for item in ends])


def dots_on(items):
    return [(rule, dot + 1, since) for rule, dot, since in items]
