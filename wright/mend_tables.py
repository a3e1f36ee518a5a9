"""What it costs at the least that parts stand for the spans of a row.

A cost is a tuple (price, words, rules): of equally cheap trees one of the fewest words is taken, and
of these one of the fewest rules. So each tree costs more than the trees in it, also where all prices
are nought, and none leads back to itself.
"""

from wright.mend_checks import price_of
from wright.row_spans import spans_of
from wright.rules import numbers_by_name, words_in


def drops_of(words):
    return [("drop", word) for word in words]


# The cheapest changes by which the words of the row become this one; of equally cheap ones those that keep most.
def word_changes(word, words, prices):
    drops = drops_of(words)
    ways = []
    if word in words:
        place = words.index(word)
        ways.append(drops[:place] + [("keep", word)] + drops[place + 1:])
    if words:
        ways.append([("change", words[0], word)] + drops[1:])
    ways.append([("put", word)] + drops)
    return min(ways, key=lambda way: price_of(way, prices))


def sum_of(one, other):
    return (one[0] + other[0], one[1] + other[1], one[2] + other[2])


def with_rule(cost):
    return (cost[0], cost[1], cost[2] + 1)


class MendTable:
    def __init__(self, rules, row, prices):
        self.rules = rules
        self.row = list(row)
        self.prices = prices
        self.numbers = numbers_by_name(rules)
        # By (part, at, to): the part stands for this span. By (rule, dot, at, to): the rule's parts ahead of
        # the dot do, with what is dropped ahead of them.
        self.part_costs = {}
        self.dot_costs = {}
        # A span is put together from shorter ones, but for what stands beside a part for no words.
        for at, to in spans_of(len(self.row)):
            self.fill_words(at, to)
            for number in range(len(rules)):
                self.fill_rule(number, at, to)
            self.settle_span(at, to)

    def fill_words(self, at, to):
        for word in words_in(self.rules):
            changes = word_changes(word, self.row[at:to], self.prices)
            self.part_costs[(word, at, to)] = (price_of(changes, self.prices), 1, 0)

    def fill_rule(self, number, at, to):
        self.dot_costs[(number, 0, at, to)] = (price_of(drops_of(self.row[at:to]), self.prices), 0, 0)
        for dot in range(len(self.rules[number][1])):
            for middle in range(at + 1, to):
                self.lower_at(number, dot, at, middle, to)

    # Rounds through all rules, until a round lowers no cost.
    def settle_span(self, at, to):
        lowered = True
        while lowered:
            lowered = any([self.settle_rule(number, at, to) for number in range(len(self.rules))])

    def settle_rule(self, number, at, to):
        parts = self.rules[number][1]
        lowered = False
        for dot in range(len(parts)):
            for middle in (at, to):
                lowered = self.lower_at(number, dot, at, middle, to) or lowered
        end = (number, len(parts), at, to)
        if end in self.dot_costs:
            own = (self.rules[number][0], at, to)
            lowered = lower(self.part_costs, own, with_rule(self.dot_costs[end])) or lowered
        return lowered

    def lower_at(self, number, dot, at, middle, to):
        cost = self.cost_by(number, dot, at, middle, to)
        return cost is not None and lower(self.dot_costs, (number, dot + 1, at, to), cost)

    # The cost at one dot on where the part at the dot begins in the middle; None where it is not known yet.
    def cost_by(self, number, dot, at, middle, to):
        ahead = self.dot_costs.get((number, dot, at, middle))
        own = self.part_costs.get((self.rules[number][1][dot], middle, to))
        return None if ahead is None or own is None else sum_of(ahead, own)

    def cheapest_rule(self, name, at, to):
        cost = self.part_costs[(name, at, to)]
        ends = [(number, len(self.rules[number][1]), at, to) for number in self.numbers[name]]
        return [end[0] for end in ends if with_rule(self.dot_costs[end]) == cost][0]

    # From the last part to the first, tuples (part, at, to) as this rule stands for the span; and behind them,
    # with "" as a part, what is dropped ahead of all.
    def cheapest_parts(self, number, at, to):
        told = []
        for dot in range(len(self.rules[number][1]) - 1, -1, -1):
            cost = self.dot_costs[(number, dot + 1, at, to)]
            fit = [middle for middle in range(at, to + 1) if self.cost_by(number, dot, at, middle, to) == cost]
            told.append((self.rules[number][1][dot], fit[0], to))
            to = fit[0]
        return told + [("", at, to)]


# Whether the cost is less than the one known so far; it is the known one then.
def lower(known, key, cost):
    if key in known and known[key] <= cost:
        return False
    known[key] = cost
    return True
