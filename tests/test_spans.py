"""Points 12, 19 and 20: whether a row is made, how many trees it has, and the first of them."""

import functools
import itertools
import unittest

from tests.helpers import PlainTrees, Soon, chance_rows, sound_lists, tree_order
from wright.grammars import Grammar
from wright.spans import count_trees, first_trees, makes
from wright.trees import row_of, tree_stands

SUM = [("E", ("E", "+", "T")), ("E", ("T",)), ("T", ("n",)), ("T", ("(", "E", ")"))]
PAIRS = [("S", ("S", "S")), ("S", ("a",))]
# A, B and C can be empty; A by two trees, by rules 1 and 2.
EMPTIES = [("S", ("A", "B", "C", "d")), ("A", ()), ("A", ("B",)), ("B", ("C", "C")), ("B", ("b",)), ("C", ()),
           ("C", ("c",))]
CATALAN_39 = 680425371729975800390


def pair_trees(many):
    """The trees of PAIRS with a row of so many words, in order."""
    if many == 1:
        yield (1, ("a",))
    for cut in range(1, many):
        for left in pair_trees(cut):
            for right in pair_trees(many - cut):
                yield (0, (left, right))


def catalan(many):
    told = 1
    for step in range(many):
        told = told * 2 * (2 * step + 1) // (step + 2)
    return told


class AskTest(unittest.TestCase):
    def count(self, rules, row, wanted):
        grammar = Grammar(rules)
        told = count_trees(grammar, row)
        self.assertIs(type(told), int)
        self.assertEqual(told, wanted, row)
        self.assertIs(makes(grammar, row), wanted > 0, row)
        self.assertEqual(len(first_trees(grammar, row, 20)), min(wanted, 20), row)


class CountTest(AskTest):
    def test_rows_with_one_tree(self):
        for text in ("n", "n + n", "( n )", "( n + n ) + n", "( ( n ) + ( n ) )"):
            self.count(SUM, text.split(), 1)

    def test_rows_that_are_not_made(self):
        for text in ("", "+", "n +", "+ n", "n n", "( n", "n )", "( )", "n + + n", "( n + n ) n"):
            self.count(SUM, text.split(), 0)

    def test_the_row_of_no_words(self):
        self.count([("S", ("a",))], [], 0)
        self.count([("S", ())], [], 1)
        self.count([("S", ("S", "a")), ("S", ())], [], 1)
        self.count([("S", ("A", "A")), ("A", ()), ("A", ())], [], 4)

    def test_a_text_of_the_row_that_is_a_name(self):
        for text in ("E", "T", "E + T", "n + T", "( E )"):
            self.count(SUM, text.split(), 0)
        self.count([("S", ("A",)), ("A", ("S", "a")), ("A", ("b",))], ["A"], 0)
        self.count([("S", ("A",)), ("A", ("S", "a")), ("A", ("b",))], ["S", "a"], 0)

    def test_a_text_that_stands_in_no_rule(self):
        for text in ("x", "n + x", "( x )", "n x"):
            self.count(SUM, text.split(), 0)
        self.count([("S", ())], ["x"], 0)

    def test_several_trees(self):
        sums = [("E", ("E", "+", "E")), ("E", ("n",))]
        for many in range(1, 8):
            self.count(sums, ["n"] + ["+", "n"] * (many - 1), catalan(many - 1))
            self.count(PAIRS, ["a"] * many, catalan(many - 1))

    def test_rules_told_twice(self):
        self.count([("S", ("a",)), ("S", ("a",))], ["a"], 2)
        self.count([("S", ("A", "A")), ("A", ("a",)), ("A", ("a",)), ("A", ("a",))], ["a", "a"], 9)

    def test_names_that_can_be_empty(self):
        self.count(EMPTIES, ["d"], 2)
        self.count(EMPTIES, ["b", "d"], 3)
        self.count(EMPTIES, ["c", "d"], 8)
        self.count(EMPTIES, ["b", "b", "d"], 1)
        self.count(EMPTIES, ["b", "c", "b", "d"], 0)
        self.count(EMPTIES, ["c", "b", "c", "d"], 2)

    def test_names_that_begin_and_end_by_themselves(self):
        self.count([("S", ("S", "a")), ("S", ("b",))], ["b", "a", "a", "a"], 1)
        self.count([("S", ("a", "S")), ("S", ("b",))], ["a", "a", "a", "b"], 1)
        self.count([("S", ("a", "S")), ("S", ("S", "a")), ("S", ("b",))], ["a", "a", "b", "a"], 3)
        self.count([("S", ("E", "S", "a", "E")), ("S", ("b",)), ("E", ()), ("E", ())], ["b", "a", "a"], 16)

    def test_a_span_filled_by_one_child_behind_or_ahead_of_empty_ones(self):
        # The names stand against the order in which they are filled, and along it.
        chain = [("S", ("E", "A")), ("A", ("E", "B", "E")), ("B", ("C", "E")), ("C", ("x",)), ("C", ("x", "S")),
                 ("E", ()), ("E", ("e",))]
        for rules in (chain, chain[:1] + chain[:0:-1]):
            self.count(rules, ["x"], 1)
            self.count(rules, ["e", "x"], 2)
            self.count(rules, ["x", "x"], 1)
            self.count(rules, ["x", "e"], 2)
            self.count(rules, ["x", "e", "x", "e"], 8)
            self.count(rules, ["e", "e", "e", "x"], 0)

    def test_more_trees_than_can_be_listed(self):
        with Soon(self, 5):
            self.count(PAIRS, ["a"] * 40, CATALAN_39)
            self.count(PAIRS, ["a"] * 39 + ["b"], 0)
            self.count(PAIRS[:1] * 2 + PAIRS[1:] * 3, ["a"] * 40, CATALAN_39 * 2 ** 39 * 3 ** 40)
        sums = [("E", ("E", "+", "E")), ("E", ("n",)), ("E", ("-", "E"))]
        with Soon(self, 5):
            self.count(sums, ["n"] + ["+", "n"] * 19 + ["-"], 0)
            self.count(sums, ["-"] + ["n"] + ["+", "n"] * 19, catalan(20))


class FirstTreesTest(unittest.TestCase):
    def test_none_asked(self):
        self.assertEqual(first_trees(Grammar(PAIRS), ["a"] * 5, 0), [])
        self.assertEqual(first_trees(Grammar(PAIRS), ["b"], 0), [])

    def test_none_there(self):
        for row in ([], ["b"], ["S"], ["a", "b"]):
            self.assertEqual(first_trees(Grammar(PAIRS), row, 20), [])

    def test_as_many_as_asked_or_there(self):
        every = list(pair_trees(5))
        self.assertEqual(len(every), 14)
        for most in (1, 2, 13, 14, 15, 20, 30):
            self.assertEqual(first_trees(Grammar(PAIRS), ["a"] * 5, most), every[:most])

    def test_trees_of_no_words(self):
        grammar = Grammar([("S", ("A", "A")), ("A", ()), ("A", ())])
        wanted = [(0, ((one, ()), (other, ()))) for one in (1, 2) for other in (1, 2)]
        self.assertEqual(first_trees(grammar, [], 20), wanted)

    def test_by_their_rules_first(self):
        # The first child would be shorter by the rule that comes later.
        grammar = Grammar([("S", ("B", "C")), ("S", ("A", "B", "C")), ("A", ()), ("B", ("x", "x")), ("C", ("x",)),
                           ("S", ("x", "x", "x"))])
        bare = (3, ("x", "x")), (4, ("x",))
        wanted = [(0, bare), (1, ((2, ()),) + bare), (5, ("x", "x", "x"))]
        self.assertEqual(first_trees(grammar, ["x"] * 3, 20), wanted)

    def test_rules_of_one_name_stand_apart_in_the_list(self):
        grammar = Grammar([("S", ("A",)), ("A", ("a",)), ("S", ("a",)), ("A", ("a",)), ("S", ("a",))])
        wanted = [(0, ((1, ("a",)),)), (0, ((3, ("a",)),)), (2, ("a",)), (4, ("a",))]
        self.assertEqual(first_trees(grammar, ["a"], 20), wanted)

    def test_the_shorter_row_first(self):
        leaf = (1, ("a",))
        self.assertEqual(first_trees(Grammar(PAIRS), ["a"] * 3, 20),
                         [(0, (leaf, (0, (leaf, leaf)))), (0, ((0, (leaf, leaf)), leaf))])

    def test_the_shorter_row_first_though_its_rule_comes_later(self):
        grammar = Grammar([("S", ("A", "A")), ("A", ("x", "x")), ("A", ("x",)), ("A", ())])
        two, one, bare = (1, ("x", "x")), (2, ("x",)), (3, ())
        self.assertEqual(first_trees(grammar, ["x", "x"], 20), [(0, (bare, two)), (0, (one, one)), (0, (two, bare))])

    def test_of_equally_long_ones_the_child_that_comes_first(self):
        grammar = Grammar([("S", ("A", "B")), ("A", ("x",)), ("A", ("x",)), ("B", ("y",)), ("B", ("y",))])
        wanted = [(0, ((one, ("x",)), (other, ("y",)))) for one in (1, 2) for other in (3, 4)]
        self.assertEqual(first_trees(grammar, ["x", "y"], 20), wanted)

    def test_the_first_unlike_child_counts(self):
        # The second child is shorter in some, but the first is unlike already.
        grammar = Grammar([("S", ("A", "B", "C")), ("A", ("x",)), ("A", ("x",)), ("B", ()), ("B", ("x",)),
                           ("C", ("x",)), ("C", ())])
        first, other = (1, ("x",)), (2, ("x",))
        short, long = ((3, ()), (5, ("x",))), ((4, ("x",)), (6, ()))
        wanted = [(0, (one,) + rest) for one in (first, other) for rest in (short, long)]
        self.assertEqual(first_trees(grammar, ["x", "x"], 20), wanted)

    def test_the_order_is_that_of_the_words(self):
        for many in range(1, 7):
            every = list(pair_trees(many))
            self.assertEqual(sorted(every, key=functools.cmp_to_key(tree_order)), every)

    def test_vastly_many_trees(self):
        with Soon(self, 5):
            told = first_trees(Grammar(PAIRS), ["a"] * 40, 20)
        self.assertEqual(told, list(itertools.islice(pair_trees(40), 20)))

    def test_against_the_plain_words(self):
        most = 0
        for at, rules in enumerate(sound_lists(62, 2000, 9, 3, "AB", "xy")):
            grammar = Grammar(rules)
            plain = PlainTrees(rules)
            for row in chance_rows(at, 5, 5, "xxyyA"):
                many = count_trees(grammar, row)
                if many < 500:
                    wanted = sorted(plain.of(rules[0][0], tuple(row)), key=functools.cmp_to_key(tree_order))
                    self.assertEqual(many, len(wanted), (rules, row))
                    self.assertIs(makes(grammar, row), many > 0)
                    for asked in (0, 1, 3, 20, 500):
                        self.assertEqual(first_trees(grammar, row, asked), wanted[:asked], (rules, row))
                    most = max(most, many)
        self.assertGreater(most, 100)


class OwnTest(unittest.TestCase):
    def test_nothing_handed_in_is_changed(self):
        grammar = Grammar(PAIRS)
        row = ["a", "a", "a"]
        for ask in (makes, count_trees, lambda one, other: first_trees(one, other, 5)):
            ask(grammar, row)
            self.assertEqual(row, ["a", "a", "a"])
            self.assertEqual(grammar.rules, PAIRS)

    def test_told_lists_are_the_askers_own(self):
        grammar = Grammar(PAIRS)
        told = first_trees(grammar, ["a"] * 3, 20)
        told.clear()
        self.assertEqual(len(first_trees(grammar, ["a"] * 3, 20)), 2)

    def test_asked_again_with_a_changed_row(self):
        grammar = Grammar(SUM)
        row = ["n"]
        self.assertEqual(count_trees(grammar, row), 1)
        row.append("+")
        self.assertEqual(count_trees(grammar, row), 0)
        row.append("n")
        self.assertEqual(count_trees(grammar, row), 1)


class SoonTest(unittest.TestCase):
    def ask(self, rules, row):
        grammar = Grammar(rules)
        with Soon(self, 6):
            many = count_trees(grammar, row)
            self.assertIs(makes(grammar, row), True)
            told = first_trees(grammar, row, 20)
        self.assertGreater(many, 20)
        self.assertEqual(len(set(told)), 20)
        for tree in told[:1] + told[-1:]:
            self.assertEqual(row_of(tree), row)
            self.assertIs(tree_stands(rules, tree, rules[0][0]), True)

    def test_all_rules_alike(self):
        self.ask([("S", ("S",) * 6)] * 22 + [("S", ("S", "S")), ("S", ("a",))], ["a"] * 40)

    def test_many_names(self):
        rules = [(f"N{at}", tuple(f"N{(at + step) % 12}" for step in range(1, 4))) for at in range(12)]
        self.ask(rules + [(f"N{at}", ("a",)) for at in range(12)], ["a"] * 39)

    def test_many_empty_children(self):
        # Each word brings trees of no words by the hundred.
        rules = [("S", ("S", "A1")), ("S", ("A1",)), ("S", ("A1",))]
        rules += [(f"A{at}", ("E",) * 5 + (f"A{at + 1}",)) for at in range(1, 8)]
        rules += [("A8", ("E",) * 5 + ("w",)), ("A8", ("E",) * 5 + ("w",)), ("E", ("F",) * 6), ("E", ()),
                  ("F", ("G",) * 6), ("F", ()), ("G", ()), ("G", ())]
        self.ask(rules, ["w"] * 40)

    def test_trees_of_nearly_200_rules_on_a_way(self):
        chain = [("S", ("A0", "S")), ("S", ("A0",)), ("S", ("A0",))]
        chain += [(f"A{at}", (f"A{at + 1}",)) for at in range(3)] + [("A3", ("(", "S", ")")), ("A3", ("x",))]
        self.ask(chain + chain[1:2] * 10, ["("] * 19 + ["x", "x"] + [")"] * 19)


if __name__ == "__main__":
    unittest.main()
