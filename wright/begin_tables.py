"""What can be empty and what can begin, found for a list of rules whose names all have trees.

Both are found in rounds through all rules, until a round finds nothing: what is found of a rule
stands by what was found ahead of it, so the lists can be checked in their order.
"""

from wright.rules import heads_of


def found_empties(rules):
    told = []
    empty = {}
    many = -1
    while many < len(told):
        many = len(told)
        for number, rule in enumerate(rules):
            if rule[0] not in empty and all([part in empty for part in rule[1]]):
                empty[rule[0]] = True
                told.append((rule[0], number))
    return told


# The places of parts behind nothing but parts that can be empty.
def first_places(parts, empty):
    places = []
    for place, part in enumerate(parts):
        places.append(place)
        if part not in empty:
            break
    return places


class BeginTable:
    def __init__(self, rules):
        self.empties = found_empties(rules)
        self.empty = dict([(name, True) for name, number in self.empties])
        self.begins = []
        # For each name the words that begin it, as keys.
        self.firsts = dict([(name, {}) for name in heads_of(rules)])
        many = -1
        while many < len(self.begins):
            many = len(self.begins)
            for number, rule in enumerate(rules):
                self.find_begins(number, rule)

    def find_begins(self, number, rule):
        own = self.firsts[rule[0]]
        for place in first_places(rule[1], self.empty):
            for word in self.words_of_part(rule[1][place]):
                if word not in own:
                    own[word] = True
                    self.begins.append((rule[0], word, number, place))

    def words_of_part(self, part):
        return list(self.firsts[part]) if part in self.firsts else [part]

    # The words that begin these parts, as keys.
    def first_words(self, parts):
        words = {}
        for place in first_places(parts, self.empty):
            for word in self.words_of_part(parts[place]):
                words[word] = True
        return words

    def all_empty(self, parts):
        return all([part in self.empty for part in parts])

    def words_of_parts(self, parts, ahead):
        words = self.first_words(parts)
        if self.all_empty(parts):
            words[ahead] = True
        return sorted(words)
