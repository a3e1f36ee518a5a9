"""The sets of places of a beginning, and what goes on behind it."""

from wright.rules import numbers_by_name


class PlaceSet:
    def __init__(self):
        self.found = {}
        # By part, the tuples with this part at their dot.
        self.askers = {}
        # The tuples (name, since) of the names that were met whole from a set's number up to here.
        self.met = {}


class PlaceSets:
    def __init__(self, grammar, beginning):
        self.rules = grammar.rules
        self.numbers = numbers_by_name(self.rules)
        self.sets = []
        self.add_set([(number, 0, 0) for number in self.numbers[grammar.start()]])
        for word in beginning:
            askers = [] if word in self.numbers else self.sets[-1].askers.get(word, [])
            self.add_set([moved_on(one) for one in askers])

    def add_set(self, waiting):
        own = PlaceSet()
        self.sets.append(own)
        while waiting:
            one = waiting.pop()
            if one not in own.found:
                own.found[one] = True
                waiting.extend(self.put_by(own, one))

    # What stands in the set by this tuple and those found ahead of it.
    def put_by(self, own, one):
        rule = self.rules[one[0]]
        if one[1] == len(rule[1]):
            return self.put_by_met(own, (rule[0], one[2]))
        part = rule[1][one[1]]
        own.askers.setdefault(part, []).append(one)
        put = []
        if part in self.numbers:
            here = len(self.sets) - 1
            if len(own.askers[part]) == 1:
                put.extend([(number, 0, here) for number in self.numbers[part]])
            # The name was met without a word ahead of this asker.
            if (part, here) in own.met:
                put.append(moved_on(one))
        return put

    def put_by_met(self, own, pair):
        if pair in own.met:
            return []
        own.met[pair] = True
        return [moved_on(asker) for asker in self.sets[pair[1]].askers.get(pair[0], [])]

    # Whether the grammar makes the beginning itself.
    def is_made(self):
        return (self.rules[0][0], 0) in self.sets[-1].met

    def told_sets(self):
        return [sorted(one.found) for one in self.sets]


def moved_on(one):
    return (one[0], one[1] + 1, one[2])


def place_sets(grammar, beginning):
    return PlaceSets(grammar, beginning).told_sets()


def goes_on(grammar, beginning):
    every = PlaceSets(grammar, beginning)
    words = [part for part in every.sets[-1].askers if part not in every.numbers]
    if every.is_made():
        words.append("")
    return sorted(words)
