"""Points 43 and 44: prices, changes, and mendings of rows."""

import copy
import itertools
import random
import unittest

from tests.helpers import Soon, chance_rows, head_order, plain_price, plain_row, plain_rows, plain_stands, sound_lists
from wright.grammars import Grammar
from wright.mend_checks import price_of
from wright.mending import mend_paper, mended_row
from wright.spans import makes

SUM = [("E", ("E", "+", "T")), ("E", ("T",)), ("T", ("n",)), ("T", ("(", "E", ")"))]
NEST = [("S", ("(", "S", ")", "S")), ("S", ())]
# A row of no words, and rows of four words at least.
GAP = [("S", ()), ("S", ("a", "b", "c", "T")), ("T", ("d",)), ("T", ("T", "d"))]
PRICES = [(1, 1, 1), (1, 2, 3), (3, 2, 1), (2, 1, 10), (10, 1, 1), (1, 10, 1), (0, 0, 0), (0, 1, 1), (1, 0, 1), (1, 1, 0),
          (0, 0, 1), (0, 1, 0), (1, 0, 0), (10 ** 30, 10 ** 30, 10 ** 30), (10 ** 30, 1, 0)]


class PriceTest(unittest.TestCase):
    def test_no_changes(self):
        for prices in PRICES:
            self.assertEqual(price_of([], prices), 0)

    def test_each_form(self):
        prices = (5, 7, 11)
        self.assertEqual(price_of([("keep", "a")], prices), 0)
        self.assertEqual(price_of([("put", "a")], prices), 5)
        self.assertEqual(price_of([("drop", "a")], prices), 7)
        self.assertEqual(price_of([("change", "a", "b")], prices), 11)

    def test_the_sum(self):
        changes = [("keep", "a"), ("put", "b"), ("drop", "c"), ("change", "d", "e"), ("put", "b"), ("keep", "a")]
        self.assertEqual(price_of(changes, (5, 7, 11)), 28)
        self.assertEqual(price_of(changes[::-1], (5, 7, 11)), 28)
        self.assertEqual(price_of(changes * 3, (5, 7, 11)), 84)

    def test_a_word_changed_to_itself_is_paid(self):
        self.assertEqual(price_of([("change", "a", "a")], (5, 7, 11)), 11)

    def test_words_like_forms(self):
        self.assertEqual(price_of([("keep", "put"), ("drop", "keep"), ("change", "drop", "put")], (5, 7, 11)), 18)

    def test_great_prices_and_noughts(self):
        changes = [("put", "a"), ("drop", "b"), ("change", "c", "d")]
        self.assertEqual(price_of(changes, (10 ** 30, 10 ** 30, 10 ** 30)), 3 * 10 ** 30)
        self.assertEqual(price_of(changes, (0, 10 ** 30, 1)), 10 ** 30 + 1)
        self.assertEqual(price_of(changes, (0, 0, 0)), 0)


class MendingTest(unittest.TestCase):
    def mend(self, rules, row, prices):
        """What is told, held against all that points 43 and 44 say but that it is the least."""
        handed = list(row)
        told = mended_row(Grammar(rules), handed, prices)
        self.assertEqual(handed, list(row))
        self.assertEqual([type(told), len(told), type(told[0]), type(told[1]), type(told[2])],
                         [tuple, 3, int, list, tuple])
        price, changes, tree = told
        for change in changes:
            self.assertIsInstance(change, tuple)
            self.assertEqual(len(change), {"keep": 2, "drop": 2, "put": 2, "change": 3}[change[0]])
        self.assertEqual([change[1] for change in changes if change[0] != "put"], list(row))
        self.assertEqual([change[-1] for change in changes if change[0] != "drop"], plain_row(tree))
        self.assertTrue(plain_stands(rules, tree, rules[0][0]))
        self.assertEqual(price_of(changes, prices), price)
        return told

    def price(self, rules, row, prices):
        return self.mend(rules, row, prices)[0]

    def test_rows_that_the_grammar_makes(self):
        for rules, rows in ((SUM, ("n", "n+n", "(n)+(n+n)")), (NEST, ("", "()", "(())()")), (GAP, ("", "abcdd"))):
            for row in rows:
                for prices in PRICES:
                    self.assertEqual(self.price(rules, row, prices), 0)
                told = self.mend(rules, row, (1, 1, 1))
                self.assertEqual(told[1], [("keep", word) for word in row])
                self.assertEqual(plain_row(told[2]), list(row))

    def test_a_word_too_many(self):
        self.assertEqual(self.price(SUM, "nn", (5, 1, 5)), 1)
        self.assertEqual(self.price(SUM, "n++n", (9, 1, 9)), 1)
        self.assertEqual(self.price(SUM, "n+n)", (9, 2, 9)), 2)
        self.assertEqual(self.price(NEST, "())", (9, 2, 9)), 2)

    def test_a_word_too_few(self):
        self.assertEqual(self.price(SUM, "nn", (1, 5, 5)), 1)
        self.assertEqual(plain_row(self.mend(SUM, "nn", (1, 5, 5))[2]), list("n+n"))
        self.assertEqual(self.price(SUM, "(n+n", (1, 5, 5)), 1)
        self.assertEqual(self.price(SUM, "n+", (1, 9, 9)), 1)
        self.assertEqual(self.price(NEST, ")", (2, 9, 9)), 2)

    def test_a_word_changed(self):
        told = self.mend(SUM, "n(n", (5, 5, 1))
        self.assertEqual(told[:2], (1, [("keep", "n"), ("change", "(", "+"), ("keep", "n")]))
        self.assertEqual(self.price(SUM, "+", (5, 5, 1)), 1)
        self.assertEqual(self.price(NEST, "((", (5, 5, 1)), 1)

    def test_a_change_or_a_drop_and_a_put(self):
        for change in range(6):
            self.assertEqual(self.price(SUM, "n(n", (2, 1, change)), min(change, 2))
            self.assertEqual(self.price([("S", ("a",))], "b", (2, 1, change)), min(change, 3))

    def test_the_row_of_no_words(self):
        self.assertEqual(self.price(SUM, [], (3, 1, 1)), 3)
        self.assertEqual(self.price(NEST, [], (3, 1, 1)), 0)
        self.assertEqual(self.mend(NEST, [], (3, 1, 1)), (0, [], (1, ())))
        self.assertEqual(self.mend([("S", ("a", "b"))], [], (10 ** 30, 0, 0)),
                         (2 * 10 ** 30, [("put", "a"), ("put", "b")], (0, ("a", "b"))))

    def test_all_words_dropped(self):
        self.assertEqual(self.mend([("S", ())], "ab", (9, 2, 1)), (4, [("drop", "a"), ("drop", "b")], (0, ())))
        self.assertEqual(self.price(GAP, "abx", (10, 1, 10)), 3)
        self.assertEqual(self.price(GAP, "abx", (1, 10, 2)), 3)

    def test_words_that_stand_in_no_rule(self):
        self.assertEqual(self.price(SUM, ["much", "+", "n"], (9, 9, 2)), 2)
        self.assertEqual(self.price(SUM, ["n", "much"], (9, 2, 9)), 2)
        self.assertEqual(self.price(SUM, ["u", "v", "w"], (9, 9, 2)), 6)

    def test_a_text_that_is_a_name_is_not_kept(self):
        self.assertEqual(self.price(SUM, ["E"], (1, 1, 1)), 1)
        self.assertEqual(self.price(SUM, ["T", "+", "n"], (9, 9, 4)), 4)
        self.assertEqual(self.price(NEST, ["S"], (9, 2, 9)), 2)

    def test_prices_of_nought(self):
        for prices in PRICES:
            for row in ("", "n", "nn", "+)", "xyz", "((((", "n+n+n+n+n+n+"):
                told = self.price(SUM, row, prices)
                if 0 in prices[:2] and prices[0] == prices[1]:
                    self.assertEqual(told, 0)

    def test_a_put_without_a_price_does_not_go_on_for_ever(self):
        rules = [("S", ("S", "S")), ("S", ("a", "S", "b")), ("S", ("c",)), ("S", ("A", "S", "b")), ("A", ())]
        for row in ("", "x", "cc", "bca", "aaaabbbb"):
            for prices in ((0, 0, 0), (0, 1, 1), (0, 5, 0)):
                self.assertLess(len(plain_row(self.mend(rules, row, prices)[2])), 30)

    def test_rows_of_12_words(self):
        self.assertEqual(self.price(SUM, "n+n+n+n+n+n+", (1, 1, 1)), 1)
        self.assertEqual(self.price(SUM, "nnnnnnnnnnnn", (1, 9, 9)), 11)
        self.assertEqual(self.price(SUM, "nnnnnnnnnnnn", (9, 1, 9)), 11)
        self.assertEqual(self.price(SUM, "((((((((((((", (1, 9, 9)), 13)
        self.assertEqual(self.price(SUM, "++++++++++++", (9, 9, 1)), 15)

    def test_the_least_price_against_all_rows(self):
        for rules, most in ((SUM, 7), (NEST, 8), (GAP, 8), ([("S", ("a", "b")), ("S", ("c",))], 3)):
            every = plain_rows(rules, most)
            words = sorted({part for head, parts in rules for part in parts} - set(head_order(rules))) + ["x"]
            for many in range(3):
                for row in itertools.product(words, repeat=many):
                    for prices in ((1, 1, 1), (1, 2, 4), (4, 2, 1), (0, 1, 1), (2, 1, 10 ** 30)):
                        wanted = min(plain_price(row, other, prices) for other in every)
                        self.assertEqual(self.price(rules, row, prices), wanted, (rules, row, prices))

    def test_by_chance(self):
        chance = random.Random(4)
        many = 0
        for rules in sound_lists(211, 300, 6, 3, "ABC", "xyz"):
            every = plain_rows(rules, 6)
            for row in chance_rows(chance.random(), 4, 5, "xyzw"):
                prices = chance.choice(PRICES)
                told = self.price(rules, row, prices)
                self.assertLessEqual(told, min([plain_price(row, other, prices) for other in every], default=told))
                self.assertEqual(told, plain_price(row, plain_row(mended_row(Grammar(rules), row, prices)[2]), prices))
                if makes(Grammar(rules), row):
                    self.assertEqual(told, 0)
                many += 1
        self.assertGreater(many, 150)

    def test_no_more_words_than_need_be(self):
        # Of like prices the shorter row: a thousand words and more would be another tree's.
        rules = [("S", ("A",)), ("A", ("B",) * 6), ("B", ("C",) * 6), ("C", ("x", "x")), ("A", ("D", "y")), ("D", ("E",)),
                 ("E", ("F",)), ("F", ("y",))]
        told = self.mend(rules, [], (0, 0, 0))
        self.assertEqual(plain_row(told[2]), ["y", "y"])

    def test_the_same_each_time(self):
        for row in ("", "nn", "+n(", "))(("):
            for prices in PRICES:
                told = mended_row(Grammar(SUM), list(row), prices)
                self.assertEqual(mended_row(Grammar(list(SUM)), list(row), prices), told)
                grammar = Grammar(SUM)
                mended_row(grammar, ["n"], (1, 1, 1))
                self.assertEqual(mended_row(grammar, list(row), prices), told)


class OwnTest(unittest.TestCase):
    def test_told_lists_are_the_askers_own(self):
        grammar = Grammar(SUM)
        told = mended_row(grammar, ["n", "n"], (1, 1, 1))
        paper = mend_paper(grammar, ["n", "n"], (1, 1, 1))
        kept = copy.deepcopy((told, paper))
        told[1].clear()
        paper[0].clear()
        paper[1].reverse()
        self.assertIsNot(paper[0], paper[1])
        self.assertEqual((mended_row(grammar, ["n", "n"], (1, 1, 1)), mend_paper(grammar, ["n", "n"], (1, 1, 1))), kept)

    def test_nothing_handed_in_is_changed(self):
        grammar = Grammar(SUM)
        row = ["n", "n", "x"]
        told = mended_row(grammar, row, (1, 2, 3))
        kept = copy.deepcopy(told)
        mend_paper(grammar, row, (1, 2, 3))
        changes = list(told[1])
        price_of(changes, (1, 2, 3))
        self.assertEqual((row, grammar.rules, changes), (["n", "n", "x"], SUM, told[1]))
        row.clear()
        self.assertEqual(told, kept)


class SoonTest(unittest.TestCase):
    def test_the_longest_grammars(self):
        rules = [(f"N{at}", tuple(f"N{(at + step) % 12}" for step in range(1, 7))) for at in range(12)]
        for told in ([("S", ("S",) * 6)] * 22 + [("S", ("S", "S")), ("S", ("a",))],
                     rules + [(f"N{at}", ("a", "a")) for at in range(12)],
                     [(f"N{at}", (f"N{at + 1}",) * 2 + ("a",)) for at in range(11)] + [(f"N{at}", ()) for at in range(12)],
                     [("S", tuple(f"w{at}-{place}" for place in range(6))) for at in range(24)],
                     [("N23", ("N22", "a"))] + [(f"N{at}", (f"N{at - 1}", "a", "b", "c", "d", "e")) for at in range(1, 23)]
                     + [("N0", ("x",))]):
            grammar = Grammar(told)
            for row in (["a", "b"] * 6, ["w0-1", "w7-2", "z"] * 4):
                for prices in ((1, 1, 1), (0, 0, 0), (10 ** 30, 10 ** 30 - 1, 10 ** 30)):
                    with Soon(self, 4):
                        price, changes, tree = mended_row(grammar, row, prices)
                        names, dots = mend_paper(grammar, row, prices)
                    self.assertEqual(price_of(changes, prices), price)
                    self.assertIn((grammar.start(), 0, 12, price), names)

    def test_somewhat_longer_rows(self):
        with Soon(self, 4):
            self.assertEqual(mended_row(Grammar(SUM), ["n"] * 16, (1, 9, 9))[0], 15)


if __name__ == "__main__":
    unittest.main()
