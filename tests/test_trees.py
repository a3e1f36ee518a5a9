"""Points 10 and 20: the row of a tree, and what stands as a tree."""

import random
import unittest

from tests.helpers import PlainTrees, Soon, plain_row, plain_stands, sound_lists
from wright.trees import row_of, tree_stands

# A can be empty; "x" stands in no rule.
RULES = [("S", ("A", "b", "A")), ("A", ("a",)), ("A", ()), ("S", ("S", "c")), ("B", ("S",))]
LEAF = (1, ("a",))
BARE = (2, ())
NEST = [("S", ("(", "S", ")")), ("S", ())]


def nested(deep):
    """A tree of NEST that is so deep."""
    tree = (1, ())
    for _ in range(deep - 1):
        tree = (0, ("(", tree, ")"))
    return tree


class RowTest(unittest.TestCase):
    def test_a_text(self):
        for text in ("a", "S", "long-word"):
            self.assertEqual(row_of(text), [text])

    def test_a_tree_of_no_words(self):
        self.assertEqual(row_of(BARE), [])
        self.assertEqual(row_of((7, ((2, ()), (3, ((2, ()),))))), [])

    def test_words_from_the_left(self):
        self.assertEqual(row_of((0, (LEAF, "b", BARE))), ["a", "b"])
        self.assertEqual(row_of((3, ((0, (BARE, "b", LEAF)), "c"))), ["b", "a", "c"])
        self.assertEqual(row_of((0, ("one", (1, ("two", (1, ("three",)), "four")), (1, ("five",)), "six"))),
                         ["one", "two", "three", "four", "five", "six"])

    def test_what_is_no_tree_of_any_rules(self):
        self.assertEqual(row_of((-5, ("a", (10 ** 9, ("a", "b")), "S"))), ["a", "a", "b", "S"])

    def test_deep_trees(self):
        for deep in (1, 2, 200, 300):
            with self.subTest(deep):
                self.assertEqual(row_of(nested(deep)), ["("] * (deep - 1) + [")"] * (deep - 1))

    def test_the_row_is_the_askers_own(self):
        for tree in ("a", (0, (LEAF, "b", BARE))):
            told = row_of(tree)
            kept = list(told)
            told.append("more")
            self.assertEqual(row_of(tree), kept)


class StandsTest(unittest.TestCase):
    def stands(self, tree, name, rules=RULES):
        self.assertIs(tree_stands(rules, tree, name), True, (tree, name))

    def falls(self, tree, name, rules=RULES):
        self.assertIs(tree_stands(rules, tree, name), False, (tree, name))

    def test_trees_of_the_name(self):
        self.stands(BARE, "A")
        self.stands(LEAF, "A")
        self.stands((0, (LEAF, "b", BARE)), "S")
        self.stands((3, ((3, ((0, (BARE, "b", LEAF)), "c")), "c")), "S")
        # B is in no tree of the start, and is a name all the same.
        self.stands((4, ((0, (BARE, "b", BARE)),)), "B")

    def test_trees_of_another_name(self):
        self.falls(BARE, "S")
        self.falls((0, (LEAF, "b", BARE)), "A")
        self.falls((0, (LEAF, "b", BARE)), "B")
        self.falls((0, ((0, (BARE, "b", BARE)), "b", BARE)), "S")
        self.falls((4, (LEAF,)), "B")

    def test_of_a_text_that_is_no_name_none_stands(self):
        for name in ("b", "x", "", "a"):
            for tree in (BARE, LEAF, (0, (LEAF, "b", BARE)), name, "b", (0, ())):
                self.falls(tree, name)

    def test_a_text_is_no_tree_of_a_name(self):
        for text in ("S", "A", "a", "b", ""):
            self.falls(text, "S")
            self.falls(text, "A")

    def test_numbers_that_are_no_rules(self):
        for number in (-1, -4, -5, 5, 6, 10 ** 30, -10 ** 30):
            for children in ((), ("a",), (LEAF, "b", BARE), ((0, (LEAF, "b", BARE)),)):
                for name in ("S", "A", "B"):
                    self.falls((number, children), name)

    def test_truths_are_no_numbers(self):
        self.falls((True, ("a",)), "A")
        self.falls((False, (LEAF, "b", BARE)), "S")
        self.falls((0, ((True, ("a",)), "b", BARE)), "S")
        self.falls((False, ()), "S", [("S", ())])

    def test_too_few_and_too_many_children(self):
        for children in ((), (LEAF,), (LEAF, "b"), (LEAF, "b", BARE, "b"), (LEAF, "b", BARE, BARE)):
            self.falls((0, children), "S")
        for children in ((), ("a", "a"), ("a", BARE)):
            self.falls((1, children), "A")
        self.falls((2, ("a",)), "A")
        self.falls((2, (BARE,)), "A")

    def test_a_word_where_a_tree_is_asked(self):
        self.falls((0, ("a", "b", BARE)), "S")
        self.falls((0, (LEAF, "b", "")), "S")

    def test_a_tree_where_a_word_is_asked(self):
        self.falls((0, (LEAF, LEAF, BARE)), "S")
        self.falls((1, (BARE,)), "A")
        self.falls((1, ((1, ("a",)),)), "A")

    def test_another_word(self):
        self.falls((1, ("b",)), "A")
        self.falls((0, (LEAF, "a", BARE)), "S")
        self.falls((3, ((0, (LEAF, "b", BARE)), "x")), "S")

    def test_a_name_as_a_word(self):
        self.falls((0, ("A", "b", "A")), "S")
        self.falls((3, ("S", "c")), "S")
        self.falls((4, ("S",)), "B")

    def test_a_fault_anywhere(self):
        self.falls((3, ((3, ((0, (BARE, "b", (1, ("b",)))), "c")), "c")), "S")
        self.falls((3, ((3, ((0, ((1, ()), "b", LEAF)), "c")), "c")), "S")
        self.falls((3, ((0, (LEAF, "b", (2, ("a",)))), "c")), "S")

    def test_rules_that_no_grammar_has(self):
        self.falls((0, ()), "S", [])
        # Without a tree of its own, and with a loop.
        self.falls((0, ("S",)), "S", [("S", ("S",))])
        self.stands((0, ((0, ((1, ()),)),)), "S", [("S", ("S",)), ("S", ())])

    def test_deep_trees(self):
        for deep in (199, 200, 300):
            with self.subTest(deep), Soon(self, 2):
                self.stands(nested(deep), "S", NEST)
                self.falls(nested(deep), "(", NEST)
                self.falls((0, ("(", nested(deep), "(")), "S", NEST)

    def test_deep_trees_that_do_not_stand_at_the_bottom(self):
        for bottom in ("S", "(", (1, ("(",)), (0, ("(", ")")), (True, ()), (2, ()), (-1, ())):
            tree = bottom
            for _ in range(199):
                tree = (0, ("(", tree, ")"))
            self.falls(tree, "S", NEST)

    def test_against_the_plain_words(self):
        chance = random.Random(61)
        kinds = {True: 0, False: 0}
        for rules in sound_lists(61, 600, 9, 3, "AB", "xy"):
            plain = PlainTrees(rules)
            for row in ((), ("x",), ("x", "y"), ("y", "x", "x")):
                for name in plain.heads:
                    for tree in plain.of(name, row)[:4]:
                        self.stands(tree, name, rules)
                        self.assertEqual(row_of(tree), list(row))
                        other = changed_somewhere(chance, tree)
                        self.assertEqual(row_of(other), plain_row(other))
                        for asked in "ABCx":
                            wanted = plain_stands(rules, other, asked)
                            kinds[wanted] += 1
                            self.assertIs(tree_stands(rules, other, asked), wanted, (rules, other, asked))
        self.assertGreater(min(kinds.values()), 100)


def changed_somewhere(chance, tree):
    """The tree with some one thing in it told otherwise."""
    if isinstance(tree, str) or chance.randrange(3) == 0:
        return chance.choice(["x", "A", (0, ()), (1, ("x",)), (2, ()), (1, ((0, ()), "y"))])
    if not tree[1] or chance.randrange(3) == 0:
        return (chance.randrange(-1, 6), tree[1])
    at = chance.randrange(len(tree[1]))
    put = chance.choice([(), (changed_somewhere(chance, tree[1][at]),), (changed_somewhere(chance, tree[1][at]),)])
    return (tree[0], tree[1][:at] + put + tree[1][at + 1:])


if __name__ == "__main__":
    unittest.main()
