"""Points 29 to 31: the deeds of trees, papers of two deeds, and a paper for each two deeds of a clash."""

import copy
import itertools
import unittest

from tests.helpers import (
    PlainTrees, Soon, plain_deeds, plain_paper, plain_rooms, plain_row, plain_tree_deeds, sound_lists)
from wright.clash_papers import clash_paper, deeds_of_tree, paper_stands
from wright.deeds import clashes_of, deeds_of
from wright.grammars import Grammar
from wright.rooms import rooms_of

SUM = [("E", ("E", "+", "E")), ("E", ("n",))]
N = (1, ("n",))
LEFT = (0, ((0, (N, "+", N)), "+", N))
RIGHT = (0, (N, "+", (0, (N, "+", N))))
PLUS = ("step", "+")
# Two makes with nothing behind, and two with a word behind.
MAKES = [("S", ("A",)), ("S", ("B",)), ("S", ("A", "y")), ("S", ("B", "y")), ("A", ("x",)), ("B", ("x",))]
# A step and two makes by one word, and a make by it where it is never a step.
THREE = [("S", ("a", "A", "c", "c")), ("S", ("a", "B", "c")), ("S", ("a", "b", "c", "d")), ("A", ("b",)), ("B", ("b",))]
# Room 0 has clashes: nothing stands ahead of the deeds.
AT_ONCE = [("S", ("A", "x", "S")), ("S", ("B", "x")), ("A", ()), ("B", ()), ("S", ("x", "y"))]
# What comes next behind a make stands behind names without words, and within names that begin with such.
HOLLOW = [("S", ("A", "E", "F", "L")), ("S", ("B", "E", "x")), ("A", ("a",)), ("B", ("a",)), ("E", ()), ("E", ("e",)),
          ("F", ("E", "E")), ("L", ("F", "M")), ("M", ("E", "x", "y", "L")), ("M", ("z",))]
# The makes' own word comes only many names further out.
DEEP = [("S", ("T", "w", "V")), ("T", ("U",)), ("U", ("V", "E")), ("V", ("A",)), ("V", ("B",)), ("E", ()),
        ("A", ("a", "a")), ("B", ("a", "a"))]
ELSE = [("S", ("if", "S")), ("S", ("if", "S", "else", "S")), ("S", ("x",))]
MIDDLE = [("S", ("a", "S", "a")), ("S", ("b", "S", "b")), ("S", ())]
WITH_CLASHES = [SUM, MAKES, THREE, AT_ONCE, HOLLOW, DEEP, ELSE, MIDDLE]


def as_in_trees(deed, word):
    return ("step", word) if deed[0] == "step" else deed


def papers_asked(rules, stands=plain_paper):
    """Asks for each two deeds of each clash, in both orders; tells how many there are, where all papers stand."""
    grammar = Grammar(rules)
    plan = rooms_of(grammar)
    asked = 0
    for room, word, deeds in clashes_of(deeds_of(grammar, plan)):
        for one, other in itertools.permutations(deeds, 2):
            paper = clash_paper(grammar, plan, room, word, one, other)
            if not stands(rules, paper, word, as_in_trees(one, word), as_in_trees(other, word)):
                raise AssertionError((rules, room, word, one, other, paper))
            asked += 1
    return asked


def deep_tree(many):
    tree = N
    for _ in range(many):
        tree = (0, (tree, "+", N))
    return tree


class DeedsOfTreeTest(unittest.TestCase):
    def test_of_no_words(self):
        self.assertEqual(deeds_of_tree((3, ())), [("make", 3), ("done",)])
        self.assertEqual(deeds_of_tree((0, ((2, ()), (1, ())))), [("make", 2), ("make", 1), ("make", 0), ("done",)])

    def test_of_one_word(self):
        self.assertEqual(deeds_of_tree(N), [("step", "n"), ("make", 1), ("done",)])

    def test_a_makes_deed_behind_those_of_its_children(self):
        self.assertEqual(deeds_of_tree(RIGHT), [
            ("step", "n"), ("make", 1), PLUS, ("step", "n"), ("make", 1), PLUS, ("step", "n"), ("make", 1),
            ("make", 0), ("make", 0), ("done",)])
        self.assertEqual(deeds_of_tree(LEFT), [
            ("step", "n"), ("make", 1), PLUS, ("step", "n"), ("make", 1), ("make", 0), PLUS, ("step", "n"),
            ("make", 1), ("make", 0), ("done",)])
        self.assertEqual(deeds_of_tree((0, ("a", (1, ()), "b", (2, ("c",)), "d"))), [
            ("step", "a"), ("make", 1), ("step", "b"), ("step", "c"), ("make", 2), ("step", "d"), ("make", 0),
            ("done",)])

    def test_words_like_the_deeds_own_texts(self):
        self.assertEqual(deeds_of_tree((0, ("make", "step", (1, ("done",))))), [
            ("step", "make"), ("step", "step"), ("step", "done"), ("make", 1), ("make", 0), ("done",)])

    def test_a_deep_tree(self):
        self.assertEqual(deeds_of_tree(deep_tree(150)), plain_tree_deeds(deep_tree(150)) + [("done",)])
        self.assertEqual(len(deeds_of_tree(deep_tree(5000))), 1 + 4 * 5000 + 2)

    def test_of_all_trees_of_a_row(self):
        trees = PlainTrees(SUM).of("E", tuple("n+n+n+n+n"))
        self.assertEqual(len({tuple(deeds_of_tree(tree)) for tree in trees}), 14)
        for tree in trees:
            self.assertEqual(deeds_of_tree(tree), plain_tree_deeds(tree) + [("done",)])

    def test_own(self):
        told = deeds_of_tree(N)
        told.clear()
        self.assertEqual(deeds_of_tree(N), [("step", "n"), ("make", 1), ("done",)])


class StandsTest(unittest.TestCase):
    def check(self, stands, rules, paper, word, one, other):
        self.assertIs(paper_stands(rules, paper, word, one, other), stands, (paper, word, one, other))
        self.assertIs(plain_paper(rules, paper, word, one, other), stands)

    def test_stands(self):
        self.check(True, SUM, (LEFT, RIGHT), "+", ("make", 0), PLUS)
        self.check(True, SUM, (RIGHT, LEFT), "+", PLUS, ("make", 0))

    def test_turned_about(self):
        self.check(False, SUM, (LEFT, RIGHT), "+", PLUS, ("make", 0))
        self.check(False, SUM, (RIGHT, LEFT), "+", ("make", 0), PLUS)

    def test_like_trees(self):
        for one in (("make", 0), PLUS, ("done",)):
            self.check(False, SUM, (LEFT, LEFT), "+", one, one)
            self.check(False, SUM, (LEFT, LEFT), "+", one, ("make", 1))
            self.check(False, SUM, (N, N), "", one, ("done",))

    def test_another_next_word(self):
        for word in ("n", "", "E", "x", "elsewhere"):
            self.check(False, SUM, (LEFT, RIGHT), word, ("make", 0), PLUS)
        # Each of the two has to have it next.
        rules = [("S", ("A", "y")), ("S", ("x", "z")), ("A", ("x",)), ("S", ("A", "z"))]
        self.check(True, rules, ((3, ((2, ("x",)), "z")), (1, ("x", "z"))), "z", ("make", 2), ("step", "z"))
        for word in ("y", "z"):
            self.check(False, rules, ((0, ((2, ("x",)), "y")), (1, ("x", "z"))), word, ("make", 2), ("step", "z"))
            self.check(False, rules, ((1, ("x", "z")), (0, ((2, ("x",)), "y"))), word, ("step", "z"), ("make", 2))

    def test_other_deeds(self):
        for one in (("make", 1), ("make", 7), ("step", "n"), ("step", 0), ("done",), ("make", 0)):
            self.check(False, SUM, (LEFT, RIGHT), "+", one, ("make", 0))
            self.check(one == ("make", 0), SUM, (LEFT, RIGHT), "+", one, PLUS)

    def test_trees_that_part_elsewhere(self):
        # The deeds that are asked for stand in both, but the trees part ahead of them.
        long_left = (0, (LEFT, "+", N))
        self.check(False, SUM, (N, RIGHT), "+", ("make", 0), PLUS)
        self.check(False, SUM, (long_left, (0, (N, "+", RIGHT))), "+", ("make", 0), ("make", 0))
        rules = [("S", ("A", "B")), ("S", ("C", "B")), ("S", ("A", "D")), ("A", ("x",)), ("C", ("x",)), ("B", ("y",)),
                 ("D", ("y",))]
        one = (0, ((3, ("x",)), (5, ("y",))))
        self.check(True, rules, (one, (2, ((3, ("x",)), (6, ("y",))))), "", ("make", 5), ("make", 6))
        self.check(True, rules, (one, (1, ((4, ("x",)), (5, ("y",))))), "y", ("make", 3), ("make", 4))
        self.check(False, rules, (one, (1, ((4, ("x",)), (5, ("y",))))), "", ("make", 0), ("make", 1))
        self.check(False, rules, (one, (1, ((4, ("x",)), (5, ("y",))))), "y", ("make", 4), ("make", 3))

    def test_steps_of_two_words(self):
        # No word is next in both.
        rules = [("S", ("a", "b")), ("S", ("a", "c"))]
        for word in ("a", "b", "c", ""):
            self.check(False, rules, ((0, ("a", "b")), (1, ("a", "c"))), word, ("step", "b"), ("step", "c"))

    def test_no_word_next(self):
        one = (0, ((4, ("x",)),))
        other = (1, ((5, ("x",)),))
        self.check(True, MAKES, (one, other), "", ("make", 4), ("make", 5))
        self.check(True, MAKES, (other, one), "", ("make", 5), ("make", 4))
        self.check(False, MAKES, (one, other), "y", ("make", 4), ("make", 5))
        self.check(False, MAKES, (one, other), "x", ("make", 4), ("make", 5))
        # A word is next in but one of them.
        longer = (3, ((5, ("x",)), "y"))
        for word in ("", "y"):
            self.check(False, MAKES, (one, longer), word, ("make", 4), ("make", 5))
            self.check(False, MAKES, (longer, one), word, ("make", 5), ("make", 4))

    def test_done_against_a_make(self):
        # Rules of which no grammar is made: the start has itself below with the same row.
        rules = [("S", ("S", "E")), ("S", ("x",)), ("E", ())]
        paper = ((1, ("x",)), (0, ((1, ("x",)), (2, ()))))
        self.check(True, rules, paper, "", ("done",), ("make", 2))
        self.check(True, rules, paper[::-1], "", ("make", 2), ("done",))
        self.check(False, rules, paper, "x", ("done",), ("make", 2))

    def test_no_trees_of_the_start(self):
        rules = SUM + [("F", ("E",)), ("F", ("E", "+", "E"))]
        for wrong in ("n", "E", "", (1, ()), (0, (N, "+")), (0, (LEFT[1][0], "+", "n")), (9, ("n",)), (-1, ("n",)),
                      (True, ("n",)), (2, (LEFT,)), (3, LEFT[1])):
            self.check(False, rules, (wrong, RIGHT), "+", ("make", 0), PLUS)
            self.check(False, rules, (RIGHT, wrong), "+", PLUS, ("make", 0))
            self.check(False, rules, (wrong, wrong), "+", PLUS, ("make", 0))
        # Trees of one name that is not the start.
        rules = [("S", ("E", "."))] + [("E", ("E", "+", "E")), ("E", ("n",))]
        one = (2, ("n",))
        self.check(False, rules, ((1, ((1, (one, "+", one)), "+", one)), (1, (one, "+", (1, (one, "+", one))))), "+",
                   ("make", 1), PLUS)

    def test_no_rules(self):
        self.assertIs(paper_stands([], (LEFT, RIGHT), "+", ("make", 0), PLUS), False)

    def test_a_truth_is_no_number_of_a_rule(self):
        rules = [("S", ("A",)), ("A", ("x",)), ("S", ("B",)), ("B", ("x",))]
        paper = ((0, ((1, ("x",)),)), (2, ((3, ("x",)),)))
        self.assertIs(paper_stands(rules, paper, "", ("make", 1), ("make", 3)), True)
        self.assertIs(paper_stands(rules, paper, "", ("make", True), ("make", 3)), False)
        self.assertIs(paper_stands(rules, paper[::-1], "", ("make", 3), ("make", True)), False)

    def test_by_all_trees_of_short_rows(self):
        standing = 0
        for rules in (SUM, MAKES, THREE, AT_ONCE, MIDDLE):
            plain = PlainTrees(rules)
            rows = [("n", "+", "n", "+", "n"), ("x",), ("x", "y"), ("a", "b", "c"), ("a", "b", "c", "c"),
                    ("a", "b", "c", "d"), ("x", "x", "x"), ("x", "x", "y"), ("a", "a"),
                    ("a", "a", "a", "a"), ("a", "b", "b", "a")]
            trees = [tree for row in rows for tree in plain.of(rules[0][0], row)]
            words = sorted({word for tree in trees for word in plain_row(tree)}) + [""]
            deeds = sorted({deed for tree in trees for deed in plain_tree_deeds(tree)}, key=repr)
            for paper in [(tree, other) for tree in trees for other in trees]:
                for word in words:
                    for one in deeds:
                        for other in deeds:
                            wanted = plain_paper(rules, paper, word, one, other)
                            standing += wanted
                            if paper_stands(rules, paper, word, one, other) is not wanted:
                                self.fail((rules, paper, word, one, other))
        self.assertGreater(standing, 10)

    def test_nothing_handed_in_is_changed(self):
        rules = list(SUM)
        paper_stands(rules, (LEFT, RIGHT), "+", ("make", 0), PLUS)
        self.assertEqual(rules, SUM)

    def test_deep_trees_soon(self):
        deep = deep_tree(190)
        with Soon(self, 2):
            self.assertIs(paper_stands(SUM, (deep, (0, (N, "+", deep))), "+", ("make", 0), PLUS), True)


class PaperTest(unittest.TestCase):
    def test_a_paper(self):
        grammar = Grammar(SUM)
        plan = rooms_of(grammar)
        self.assertEqual(clash_paper(grammar, plan, 4, "+", ("make", 0), ("step", 3)), (LEFT, RIGHT))
        self.assertEqual(clash_paper(grammar, plan, 4, "+", ("step", 3), ("make", 0)), (RIGHT, LEFT))

    def test_each_clash(self):
        for rules in WITH_CLASHES:
            self.assertGreater(papers_asked(rules), 1, rules)
            papers_asked(rules, paper_stands)

    def test_three_deeds(self):
        grammar = Grammar(THREE)
        clashes = clashes_of(deeds_of(grammar, rooms_of(grammar)))
        self.assertIn([("make", 3), ("make", 4), ("step", 8)], [deeds for room, word, deeds in clashes])
        self.assertEqual(papers_asked(THREE), 6)

    def test_clashes_by_no_word(self):
        grammar = Grammar(MAKES)
        words = [word for room, word, deeds in clashes_of(deeds_of(grammar, rooms_of(grammar)))]
        self.assertEqual(words, ["", "y"])
        self.assertEqual(papers_asked(MAKES), 4)

    def test_clashes_in_room_0(self):
        grammar = Grammar(AT_ONCE)
        clashes = clashes_of(deeds_of(grammar, rooms_of(grammar)))
        self.assertIn((0, "x"), [(room, word) for room, word, deeds in clashes])
        self.assertGreater(papers_asked(AT_ONCE), 5)

    def test_by_chance(self):
        asked = 0
        for rules in sound_lists(76, 500) + sound_lists(77, 400, 9, 3, "ABC", "xy"):
            if plain_rooms(rules) is not None:
                asked += papers_asked(rules)
        self.assertGreater(asked, 2000)

    def test_no_grammar_has_a_clash_with_done(self):
        # So no paper is ever asked of it.
        for rules in sound_lists(78, 300, 9, 3, "ABC", "xy"):
            for room, word, deeds in clashes_of(plain_deeds(rules, plain_rooms(rules))):
                self.assertNotIn(("done",), deeds, rules)

    def test_the_same_each_time(self):
        for rules in WITH_CLASHES:
            grammar = Grammar(rules)
            plan = rooms_of(grammar)
            kept = copy.deepcopy(plan)
            for room, word, deeds in clashes_of(deeds_of(grammar, plan)):
                told = clash_paper(grammar, plan, room, word, deeds[0], deeds[1])
                self.assertEqual(clash_paper(grammar, plan, room, word, deeds[0], deeds[1]), told)
                self.assertEqual(clash_paper(Grammar(rules), kept, room, word, deeds[0], deeds[1]), told)
                self.assertEqual(clash_paper(grammar, plan, room, word, deeds[1], deeds[0]), told[::-1])
            self.assertEqual(plan, kept)
            self.assertEqual(grammar.rules, rules)


class SoonTest(unittest.TestCase):
    def test_many_clashes(self):
        sums = [("S", ("S", f"a{at}", "S")) for at in range(14)] + [("S", ("x",))]
        rings = [("S", (f"a{at}", "S")) for at in range(11)] + [("S", ("S", f"a{at}")) for at in range(11)]
        makes = [("S", (f"A{at}", "y")) for at in range(12)] + [(f"A{at}", ("x",)) for at in range(12)]
        empties = [("S", ("A", "S", "x")), ("S", ("y",))] + [("A", ())] * 22
        for rules in (sums, rings + [("S", ("x",))], makes, empties):
            with self.subTest(rules[0]), Soon(self, 10):
                self.assertGreater(papers_asked(rules, paper_stands), 100)

    def test_long_rows(self):
        # A tree of the name N has 43 rules and 216 words, one of N0 10 rules and 46 words.
        wide = [("N", ("M", "M", "M", "M", "M", "M")), ("M", ("O", "O", "O", "O", "O", "O")), ("O", ("x",) * 6)]
        tall = [(f"N{at}", (f"N{at + 1}", "x", "x", "x", "x", "x")) for at in range(9)] + [("N9", ("y",))]
        for rules in (
                [("S", ("S", "N", "S")), ("S", ("N",))] + wide,
                [("S", ("N", "S", "N")), ("S", ("N",))] + wide,
                [("S", ("A", "N", "N")), ("S", ("B", "N")), ("S", ("y",)), ("A", ("N",)), ("B", ("N",))] + wide,
                [("S", ("N0", "N0", "N0", "S", "N0", "N0")), ("S", ("N0", "N0", "N0", "S", "S", "N0")),
                 ("S", ("z",))] + tall,
        ):
            with self.subTest(rules[0]), Soon(self, 10):
                self.assertGreater(papers_asked(rules, paper_stands), 1)


if __name__ == "__main__":
    unittest.main()
