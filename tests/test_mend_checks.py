"""Points 45 and 46: papers of mendings, and what a paper lacks."""

import copy
import random
import unittest

from tests.helpers import (
    Soon, chance_rows, head_order, plain_paper_wanting, plain_price, plain_rows, sound_lists)
from wright.grammars import Grammar
from wright.mend_checks import paper_lacks
from wright.mending import mend_paper, mended_row

SUM = [("E", ("E", "+", "T")), ("E", ("T",)), ("T", ("n",)), ("T", ("(", "E", ")"))]
NEST = [("S", ("(", "S", ")", "S")), ("S", ())]
ONE = [("S", ("a",))]
PRICES = [(1, 1, 1), (5, 3, 4), (1, 10, 1), (0, 0, 0), (0, 1, 1), (1, 0, 1), (1, 1, 0), (10 ** 30, 10 ** 30, 10 ** 30)]


def spans(row):
    return [(at, to) for at in range(len(row) + 1) for to in range(at, len(row) + 1)]


def raised(paper, key, by=1):
    """The paper with one price raised: a name's where the key has three items, else a rule's."""
    which = 0 if len(key) == 3 else 1
    told = [list(one) for one in paper]
    told[which] = [one[:-1] + (one[-1] + by,) if one[:-1] == key else one for one in told[which]]
    return tuple(told)


class PaperTest(unittest.TestCase):
    def check(self, rules, row, prices):
        grammar = Grammar(rules)
        paper = mend_paper(grammar, row, prices)
        self.assertEqual([type(paper), type(paper[0]), type(paper[1])], [tuple, list, list])
        names = [(name, at, to) for name in head_order(rules) for at, to in spans(row)]
        dots = [(number, dot, at, to) for number, rule in enumerate(rules) for dot in range(len(rule[1]) + 1)
                for at, to in spans(row)]
        self.assertEqual([one[:-1] for one in paper[0]], sorted(names))
        self.assertEqual([one[:-1] for one in paper[1]], sorted(dots))
        self.assertEqual(plain_paper_wanting(rules, row, prices, paper), set())
        self.assertIsNone(paper_lacks(rules, row, prices, paper))
        price = mended_row(grammar, row, prices)[0]
        self.assertIn((grammar.start(), 0, len(row), price), paper[0])
        self.assertEqual(mend_paper(Grammar(list(rules)), list(row), prices), paper)
        return paper

    def test_one_rule(self):
        self.assertEqual(self.check(ONE, [], (5, 3, 4)), ([("S", 0, 0, 5)], [(0, 0, 0, 0, 0), (0, 1, 0, 0, 5)]))
        self.assertEqual(self.check(ONE, ["b"], (5, 3, 4)), (
            [("S", 0, 0, 5), ("S", 0, 1, 4), ("S", 1, 1, 5)],
            [(0, 0, 0, 0, 0), (0, 0, 0, 1, 3), (0, 0, 1, 1, 0), (0, 1, 0, 0, 5), (0, 1, 0, 1, 4), (0, 1, 1, 1, 5)]))
        self.assertEqual(self.check(ONE, ["a"], (5, 3, 4))[0], [("S", 0, 0, 5), ("S", 0, 1, 0), ("S", 1, 1, 5)])

    def test_rows(self):
        for prices in PRICES:
            for row in ("", "n", "n+n", "nn", "(n", "+)x", "((((", "n+n+n+n+"):
                self.check(SUM, list(row), prices)
            for row in ("", "()", ")(", "x"):
                self.check(NEST, list(row), prices)
            self.check([("S", ())], ["x", "y"], prices)

    def test_a_text_that_is_a_name(self):
        self.assertEqual(self.check(NEST, ["S"], (9, 2, 9))[0], [("S", 0, 0, 0), ("S", 0, 1, 2), ("S", 1, 1, 0)])

    def test_by_chance(self):
        chance = random.Random(5)
        for rules in sound_lists(221, 250, 6, 3, "ABC", "xyz"):
            for row in chance_rows(chance.random(), 2, 4, "xyzA"):
                self.check(rules, row, chance.choice(PRICES))


class LacksTest(unittest.TestCase):
    def check(self, rules, row, prices, paper, wanting):
        """`wanting`: all that may be told."""
        self.assertEqual(plain_paper_wanting(rules, row, prices, paper), set(wanting))
        told = paper_lacks(rules, row, prices, paper)
        if wanting:
            self.assertIn(told, wanting)
        else:
            self.assertIsNone(told)

    def test_in_any_order(self):
        chance = random.Random(6)
        row = list("n(n")
        paper = mend_paper(Grammar(SUM), row, (2, 3, 4))
        for _ in range(10):
            for one in paper:
                chance.shuffle(one)
            self.check(SUM, row, (2, 3, 4), paper, [])
        self.check(SUM, row, (2, 3, 4), (paper[0][::-1], paper[1]), [])

    def test_a_rules_price_at_dot_0_raised(self):
        row = ["b", "a"]
        paper = mend_paper(Grammar(ONE), row, (5, 3, 4))
        for at, to in spans(row):
            self.check(ONE, row, (5, 3, 4), raised(paper, (0, 0, at, to)), [(0, at, to)])

    def test_a_rules_price_one_dot_on_raised(self):
        row = ["b", "a"]
        paper = mend_paper(Grammar(ONE), row, (5, 3, 4))
        for (at, to), wanting in (((0, 0), [(0, 0, 0, 0, 0)]), ((0, 1), [(0, 0, 0, 0, 1)]), ((1, 1), [(0, 0, 1, 1, 1)]),
                                  ((0, 2), [(0, 0, 0, 0, 2), (0, 0, 0, 1, 2)]), ((1, 2), [(0, 0, 1, 1, 2)]),
                                  ((2, 2), [(0, 0, 2, 2, 2)])):
            # The name's price is raised by nothing: that of the rule above it may be.
            self.check(ONE, row, (5, 3, 4), raised(paper, (0, 1, at, to)), wanting)

    def test_a_names_price_raised(self):
        row = ["b", "a"]
        paper = mend_paper(Grammar(ONE), row, (5, 3, 4))
        for at, to in spans(row):
            self.check(ONE, row, (5, 3, 4), raised(paper, ("S", at, to)), [(0, at, to, 0, 0, 0)])

    def test_of_several_rules_the_one_that_costs_less(self):
        rules = [("S", ("a", "a")), ("S", ("b",))]
        paper = mend_paper(Grammar(rules), [], (5, 3, 4))
        self.check(rules, [], (5, 3, 4), raised(paper, ("S", 0, 0)), [(1, 0, 0, 0, 0, 0)])
        self.check(rules, [], (5, 3, 4), raised(paper, ("S", 0, 0), 6), [(0, 0, 0, 0, 0, 0), (1, 0, 0, 0, 0, 0)])
        self.check(rules, [], (5, 3, 4), raised(paper, (0, 1, 0, 0)), [(0, 0, 0, 0, 0)])

    def test_a_part_that_is_a_name(self):
        rules = [("S", ("A", "b")), ("A", ("a",))]
        row = ["a"]
        paper = mend_paper(Grammar(rules), row, (5, 3, 4))
        # A name's price that is below its rules' makes those above it lack.
        lower = raised(paper, ("A", 0, 1), -1)
        self.check(rules, row, (5, 3, 4), lower, [(0, 0, 0, 0, 1)])
        self.check(rules, row, (5, 3, 4), raised(lower, (0, 1, 0, 1), -1), [(0, 1, 0, 1, 1)])

    def test_the_price_of_a_word(self):
        # Price of a from 0 to the row's end, by the row and the prices.
        for row, prices, price in (
                ([], (5, 3, 4), 5), (["b"], (5, 3, 4), 4), (["b"], (5, 3, 40), 8), (["a"], (5, 3, 4), 0),
                (["a"], (0, 0, 0), 0), (["b", "c"], (5, 3, 4), 7), (["b", "c"], (0, 3, 4), 6), (["b", "a"], (5, 3, 4), 3),
                (["a", "b"], (5, 3, 4), 3), (["a", "a"], (5, 3, 4), 3), (["b", "a", "c"], (0, 3, 0), 6),
                (["b", "c"], (1, 0, 5), 1), (["S"], (5, 3, 4), 4), (["S"], (5, 3, 40), 8)):
            # All else is as low as can be, or as dear as dropping.
            names = [("S", at, to, -10 ** 40) for at, to in spans(row)]
            dots = [(0, 0, at, to, prices[1] * (to - at)) for at, to in spans(row)]
            dots += [(0, 1, at, to, -10 ** 40) for at, to in spans(row) if (at, to) != (0, len(row))]
            self.check(ONE, row, prices, (names, dots + [(0, 1, 0, len(row), price)]), [])
            higher = (names, dots + [(0, 1, 0, len(row), price + 1)])
            self.assertIn((0, 0, 0, 0, len(row)), plain_paper_wanting(ONE, row, prices, higher))
            self.check(ONE, row, prices, higher, plain_paper_wanting(ONE, row, prices, higher))

    def test_prices_below_nought(self):
        row = list("n(")
        paper = mend_paper(Grammar(SUM), row, (2, 3, 4))
        low = tuple([one[:-1] + (-7,) for one in told] for told in paper)
        self.assertEqual({one[:1] for one in plain_paper_wanting(SUM, row, (2, 3, 4), low)}, {(0,), (1,), (3,)})
        self.assertIn(paper_lacks(SUM, row, (2, 3, 4), low), plain_paper_wanting(SUM, row, (2, 3, 4), low))
        # No rule with a name as a part: each price is let by that is no higher than need be.
        low = tuple([one[:-1] + (-7,) for one in told] for told in mend_paper(Grammar(ONE), row, (9, 9, 9)))
        self.check(ONE, row, (9, 9, 9), low, [])
        self.check(ONE, row, (9, 9, 9), (low[0], [one[:-1] + (-7 - one[1],) for one in low[1]]), [
            (0, at, to, 0, 0, 0) for at, to in spans(row)])

    def test_a_price_lowered(self):
        row = ["n"]
        paper = mend_paper(Grammar(SUM), row, (1, 1, 1))
        for told in paper:
            for one in told:
                lower = raised(paper, one[:-1], -1)
                wanting = plain_paper_wanting(SUM, row, (1, 1, 1), lower)
                self.check(SUM, row, (1, 1, 1), lower, wanting)

    def test_each_price_raised(self):
        for rules, row in ((SUM, list("n(")), (NEST, list(")(")), (NEST, ["x"])):
            for prices in ((2, 3, 4), (0, 1, 1), (0, 0, 0)):
                paper = mend_paper(Grammar(rules), row, prices)
                for told in paper:
                    for one in told:
                        # The least price can't be higher: so something is wanting for each.
                        higher = raised(paper, one[:-1])
                        wanting = plain_paper_wanting(rules, row, prices, higher)
                        self.assertTrue(wanting)
                        self.check(rules, row, prices, higher, wanting)

    def test_a_part_that_stands_in_no_list_of_names(self):
        # A name's price that nobody asks for counts for nothing.
        paper = mend_paper(Grammar(ONE), ["b"], (5, 3, 4))
        self.check(ONE, ["b"], (5, 3, 4), (paper[0] + [("a", 0, 0, 99), ("a", 0, 1, 99)], paper[1]), [])

    def test_by_chance(self):
        chance = random.Random(7)
        found = {3: 0, 5: 0, 6: 0, None: 0}
        for rules in sound_lists(222, 300, 6, 3, "ABC", "xyz"):
            for row in chance_rows(chance.random(), 2, 3, "xyzA"):
                prices = chance.choice(PRICES)
                paper = mend_paper(Grammar(rules), row, prices)
                for _ in range(chance.randrange(4)):
                    one = chance.choice(paper[chance.randrange(2)])
                    paper = raised(paper, one[:-1], chance.choice([-9, -1, 1, 1, 2]))
                wanting = plain_paper_wanting(rules, row, prices, paper)
                told = paper_lacks(rules, row, prices, paper)
                self.assertTrue(told in wanting if wanting else told is None, (rules, row, prices, told))
                found[None if told is None else len(told)] += 1
        self.assertGreater(min(found.values()), 10, found)

    def test_no_mending_costs_less_than_a_paper_that_lacks_nothing(self):
        chance = random.Random(8)
        many = 0
        for rules in sound_lists(223, 300, 6, 3, "ABC", "xyz"):
            every = plain_rows(rules, 5)
            for row in chance_rows(chance.random(), 2, 3, "xyz"):
                prices = chance.choice(PRICES)
                # Any prices: lowered until nothing is wanting.
                paper = mend_paper(Grammar(rules), row, prices)
                for _ in range(2):
                    paper = raised(paper, chance.choice(paper[chance.randrange(2)])[:-1], chance.choice([-2, -1, 3]))
                if paper_lacks(rules, row, prices, paper) is None:
                    many += 1
                    told = {one[:-1]: one[-1] for one in paper[0]}[rules[0][0], 0, len(row)]
                    self.assertLessEqual(told, min([plain_price(row, other, prices) for other in every], default=told))
                    self.assertLessEqual(told, mended_row(Grammar(rules), row, prices)[0])
        self.assertGreater(many, 5)


class OwnTest(unittest.TestCase):
    def test_nothing_handed_in_is_changed(self):
        paper = mend_paper(Grammar(SUM), ["n"], (1, 2, 3))
        handed = (list(SUM), ["n"], (1, 2, 3), (paper[0][::-1], paper[1][::-1]))
        kept = copy.deepcopy(handed)
        paper_lacks(*handed)
        self.assertEqual(handed, kept)


class SoonTest(unittest.TestCase):
    def test_the_longest_papers(self):
        rules = [("S", ("S",) * 6)] * 22 + [("S", ("S", "S")), ("S", ("a",))]
        words = [("S", tuple(f"w{at}-{place}" for place in range(6))) for at in range(24)]
        for told in (rules, words):
            row = ["a", "w3-4", "b"] * 4
            paper = mend_paper(Grammar(told), row, (2, 3, 4))
            with Soon(self, 4):
                self.assertIsNone(paper_lacks(told, row, (2, 3, 4), paper))
                self.assertEqual(paper_lacks(told, row, (2, 3, 4), raised(paper, ("S", 0, 12)))[1:], (0, 12, 0, 0, 0))


if __name__ == "__main__":
    unittest.main()
