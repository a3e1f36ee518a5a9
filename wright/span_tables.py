"""How many trees the spans of a row have, and which one stands at a place in their order.

A span is a beginning and an end in the row. A rest, a tuple (rule, dot), is what a rule has from the
dot on. Spans are gone through from the row's end on, of one beginning the shorter ones first: so all
that a span is put together from is known ahead of it, but what fills the very same span. There the
order of the rests sees to it.
"""

from wright.rules import numbers_by_name, words_in


# All rests, each behind those that it may have the same span with. There is such an order, since a
# grammar has no loops.
def rests_in_order(rules, numbers, empty):
    needs = {}
    for number, rule in enumerate(rules):
        for dot in range(len(rule[1]), -1, -1):
            needs[(number, dot)] = needed_rests(rules, numbers, empty, number, dot)
    ordered = {}
    while len(ordered) < len(needs):
        for rest in needs:
            if rest not in ordered and all([need in ordered for need in needs[rest]]):
                ordered[rest] = True
    return list(ordered)


def needed_rests(rules, numbers, empty, number, dot):
    parts = rules[number][1]
    if dot == len(parts):
        return []
    needs = []
    if parts[dot] in empty:
        needs.append((number, dot + 1))
    if parts[dot] in numbers and all([part in empty for part in parts[dot + 1:]]):
        needs.extend([(other, 0) for other in numbers[parts[dot]]])
    return needs


class SpanTable:
    def __init__(self, grammar, row):
        self.rules = grammar.rules
        self.numbers = numbers_by_name(self.rules)
        self.whole = (grammar.start(), 0, len(row))
        order = rests_in_order(self.rules, self.numbers, grammar.begin_table.empty)
        # By part, and by rest: for each beginning the ends, rising, with the number of trees.
        self.ends = dict([(part, no_ends(row)) for part in list(self.numbers) + words_in(self.rules)])
        self.rest_ends = dict([(rest, no_ends(row)) for rest in order])
        for at, word in enumerate(row):
            # A text of the row that is a name is met by nothing.
            if word in self.ends and word not in self.numbers:
                self.ends[word][at][at + 1] = 1
        for at in range(len(row), -1, -1):
            for to in range(at, len(row) + 1):
                for number, dot in order:
                    self.fill(number, dot, at, to)
        self.made = {}

    def fill(self, number, dot, at, to):
        many = self.count_rest(number, dot, at, to)
        if many:
            self.rest_ends[(number, dot)][at][to] = many
            if dot == 0:
                own = self.ends[self.rules[number][0]][at]
                own[to] = own.get(to, 0) + many

    def count_rest(self, number, dot, at, to):
        parts = self.rules[number][1]
        if dot == len(parts):
            return 1 if at == to else 0
        ends = self.ends[parts[dot]][at]
        behind = self.rest_ends[(number, dot + 1)]
        return sum([many * behind[middle][to] for middle, many in ends.items() if to in behind[middle]])

    def count_whole(self):
        return self.ends[self.whole[0]][self.whole[1]].get(self.whole[2], 0)

    # The tree of the whole row that has so many ahead of it in the order.
    def whole_tree(self, ahead):
        return self.made_tree(self.whole + (ahead,))

    # What is made is kept by its span and place: the trees of one row have most of their children in common.
    def made_tree(self, asked):
        waiting = [asked]
        while waiting:
            one = waiting[-1]
            if one in self.made:
                waiting.pop()
            elif one[0] not in self.numbers:
                self.made[one] = one[0]
            else:
                found = self.rule_and_children(one)
                missing = [child for child in found[1] if child not in self.made]
                waiting.extend(missing)
                if not missing:
                    self.made[one] = (found[0], tuple([self.made[child] for child in found[1]]))
        return self.made[asked]

    def rule_and_children(self, asked):
        ahead = asked[3]
        for number in self.numbers[asked[0]]:
            many = self.rest_ends[(number, 0)][asked[1]].get(asked[2], 0)
            if ahead < many:
                return (number, self.children_at(number, asked[1], asked[2], ahead))
            ahead -= many

    # Of a child and the rest behind it the child counts first: for each of its trees in order stand all of the rest.
    def children_at(self, number, at, to, ahead):
        children = []
        for dot, part in enumerate(self.rules[number][1]):
            behind = self.rest_ends[(number, dot + 1)]
            for middle, many in self.ends[part][at].items():
                rests = behind[middle].get(to, 0)
                if ahead < many * rests:
                    children.append((part, at, middle, ahead // rests))
                    ahead = ahead % rests
                    at = middle
                    break
                ahead -= many * rests
        return children


def no_ends(row):
    return [{} for at in range(len(row) + 1)]
