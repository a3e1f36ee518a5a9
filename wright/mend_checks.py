"""The price of changes, and the checker of papers of mendings told by anybody.

It only looks up what is told, and adds two prices at a time.
"""

from wright.row_spans import spans_of
from wright.rules import words_in


def price_of(changes, prices):
    by_form = {"keep": 0, "put": prices[0], "drop": prices[1], "change": prices[2]}
    return sum([by_form[change[0]] for change in changes])


def paper_lacks(rules, row, prices, paper):
    told = ToldPaper(rules, row, prices, paper)
    for at, to in spans_of(len(row)):
        for number in range(len(rules)):
            lack = told.lack_at(number, at, to)
            if lack is not None:
                return lack
    return None


# The price of a word as a part that stands for these words of the row.
def word_price(word, words, prices):
    price = prices[0] + prices[1] * len(words)
    if words:
        others = prices[1] * (len(words) - 1)
        price = min(price, others if word in words else prices[2] + others)
    return price


class ToldPaper:
    def __init__(self, rules, row, prices, paper):
        self.rules = rules
        self.drop_price = prices[1]
        self.dot_prices = dict([(told[:4], told[4]) for told in paper[1]])
        self.part_prices = dict([(told[:3], told[3]) for told in paper[0]])
        for word in words_in(rules):
            for at, to in spans_of(len(row)):
                self.part_prices[(word, at, to)] = word_price(word, row[at:to], prices)

    def lack_at(self, number, at, to):
        parts = self.rules[number][1]
        if self.dot_prices[(number, 0, at, to)] > self.drop_price * (to - at):
            return (number, at, to)
        for dot in range(len(parts)):
            lack = self.lack_at_dot(number, dot, at, to)
            if lack is not None:
                return lack
        if self.part_prices[(self.rules[number][0], at, to)] > self.dot_prices[(number, len(parts), at, to)]:
            return (number, at, to, 0, 0, 0)
        return None

    def lack_at_dot(self, number, dot, at, to):
        part = self.rules[number][1][dot]
        told = self.dot_prices[(number, dot + 1, at, to)]
        for middle in range(at, to + 1):
            if told > self.dot_prices[(number, dot, at, middle)] + self.part_prices[(part, middle, to)]:
                return (number, dot, at, middle, to)
        return None
