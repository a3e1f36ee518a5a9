"""Points 21 and 22: the sets of places of a beginning, and what goes on behind it."""

import itertools
import unittest

from tests.helpers import PlainTrees, Soon, chance_rows, plain_sets, sound_lists
from wright.grammars import Grammar
from wright.sets import goes_on, place_sets
from wright.spans import makes

SUM = [("E", ("E", "+", "T")), ("E", ("T",)), ("T", ("n",)), ("T", ("(", "E", ")"))]
# A can be empty, and is asked for by rule 2 only when it was met already.
LATE = [("S", ("A", "B")), ("A", ()), ("B", ("A", "A", "x")), ("B", ("b",))]


class PlaceSetsTest(unittest.TestCase):
    def check(self, rules, row, wanted):
        self.assertEqual(place_sets(Grammar(rules), row), wanted)
        self.assertEqual(plain_sets(rules, row), wanted)

    def test_the_row_of_no_words(self):
        self.check(SUM, [], [[(0, 0, 0), (1, 0, 0), (2, 0, 0), (3, 0, 0)]])
        self.check([("S", ("a",))], [], [[(0, 0, 0)]])

    def test_only_rules_of_the_start_and_what_they_ask_for(self):
        self.check([("S", ("a", "B")), ("B", ("b",))], [], [[(0, 0, 0)]])
        self.check([("S", ("a", "B")), ("B", ("b",))], ["a", "b"],
                   [[(0, 0, 0)], [(0, 1, 0), (1, 0, 1)], [(0, 2, 0), (1, 1, 1)]])

    def test_rules_of_the_start_that_stand_apart(self):
        self.check([("S", ("A",)), ("A", ("a",)), ("S", ("b",))], [], [[(0, 0, 0), (1, 0, 0), (2, 0, 0)]])

    def test_words_and_names(self):
        self.check(SUM, ["n", "+"], [
            [(0, 0, 0), (1, 0, 0), (2, 0, 0), (3, 0, 0)],
            [(0, 1, 0), (1, 1, 0), (2, 1, 0)],
            [(0, 2, 0), (2, 0, 2), (3, 0, 2)]])

    def test_what_was_begun_sets_ago(self):
        self.check(SUM, ["(", "n", ")"], [
            [(0, 0, 0), (1, 0, 0), (2, 0, 0), (3, 0, 0)],
            [(0, 0, 1), (1, 0, 1), (2, 0, 1), (3, 0, 1), (3, 1, 0)],
            [(0, 1, 1), (1, 1, 1), (2, 1, 1), (3, 2, 0)],
            [(0, 1, 0), (1, 1, 0), (3, 3, 0)]])

    def test_each_tuple_once(self):
        rules = [("S", ("S", "S")), ("S", ("a",)), ("S", ("a",))]
        self.check(rules, ["a", "a"], [
            [(0, 0, 0), (1, 0, 0), (2, 0, 0)],
            [(0, 0, 1), (0, 1, 0), (1, 0, 1), (1, 1, 0), (2, 0, 1), (2, 1, 0)],
            [(0, 0, 2), (0, 1, 0), (0, 1, 1), (0, 2, 0), (1, 0, 2), (1, 1, 1), (2, 0, 2), (2, 1, 1)]])

    def test_behind_a_word_that_nothing_meets(self):
        first = [(0, 0, 0), (1, 0, 0), (2, 0, 0), (3, 0, 0)]
        self.check(SUM, ["+"], [first, []])
        self.check(SUM, ["+", "n", "x"], [first, [], [], []])
        self.check(SUM, ["x"], [first, []])
        told = place_sets(Grammar(SUM), ["+", "n", "x"])
        told[1].append("more")
        self.assertEqual(told[2:], [[], []])

    def test_a_text_of_the_row_that_is_a_name(self):
        first = [(0, 0, 0), (1, 0, 0), (2, 0, 0), (3, 0, 0)]
        self.check(SUM, ["E"], [first, []])
        self.check(SUM, ["T", "+"], [first, [], []])
        self.check(LATE, ["A"], [place_sets(Grammar(LATE), [])[0], []])
        self.check([("S", ("S", "a")), ("S", ())], ["S", "a"], [[(0, 0, 0), (0, 1, 0), (1, 0, 0)], [], []])

    def test_rules_without_parts(self):
        self.check([("S", ())], [], [[(0, 0, 0)]])
        self.check([("S", ())], ["a"], [[(0, 0, 0)], []])
        self.check([("S", ("A", "b")), ("A", ())], [], [[(0, 0, 0), (0, 1, 0), (1, 0, 0)]])
        self.check([("S", ("a", "A", "b")), ("A", ())], ["a"], [[(0, 0, 0)], [(0, 1, 0), (0, 2, 0), (1, 0, 1)]])

    def test_where_the_tuple_that_asks_comes_later(self):
        first = [(0, 0, 0), (0, 1, 0), (1, 0, 0), (2, 0, 0), (2, 1, 0), (2, 2, 0), (3, 0, 0)]
        self.check(LATE, [], [first])
        self.check(LATE, ["x"], [first, [(0, 2, 0), (2, 3, 0)]])
        behind = [("S", ("a", "A", "B")), ("A", ()), ("B", ("A", "A", "x")), ("B", ("A",))]
        self.check(behind, ["a"], [
            [(0, 0, 0)],
            [(0, 1, 0), (0, 2, 0), (0, 3, 0), (1, 0, 1), (2, 0, 1), (2, 1, 1), (2, 2, 1), (3, 0, 1), (3, 1, 1)]])

    def test_empty_by_names_that_are_empty_themselves(self):
        for order in itertools.permutations([("A", ("B", "B")), ("B", ("C",)), ("C", ()), ("S", ("C", "x", "S"))]):
            rules = [("S", ("A", "B", "A", "C"))] + list(order)
            for row in ([], ["x"], ["x", "x"]):
                self.assertEqual(place_sets(Grammar(rules), row), plain_sets(rules, row), (rules, row))

    def test_against_the_plain_words(self):
        for at, rules in enumerate(sound_lists(71, 900, 8, 4, "ABCD", "xyz")):
            grammar = Grammar(rules)
            for row in chance_rows(at, 3, 6, "xxyyzzA"):
                self.assertEqual(place_sets(grammar, row), plain_sets(rules, row), (rules, row))


class GoesOnTest(unittest.TestCase):
    def check(self, rules, text, wanted):
        self.assertEqual(goes_on(Grammar(rules), text.split()), wanted, text)

    def test_behind_the_row_of_no_words(self):
        self.check(SUM, "", ["(", "n"])
        self.check([("S", ())], "", [""])
        self.check([("S", ("S", "a")), ("S", ())], "", ["", "a"])
        self.check(LATE, "", ["b", "x"])

    def test_behind_beginnings(self):
        self.check(SUM, "n +", ["(", "n"])
        self.check(SUM, "(", ["(", "n"])
        self.check(SUM, "( n", [")", "+"])
        self.check(SUM, "( n + n", [")", "+"])

    def test_behind_whole_rows(self):
        self.check(SUM, "n", ["", "+"])
        self.check(SUM, "( n + n )", ["", "+"])
        self.check([("S", ("a",))], "a", [""])

    def test_not_the_end_where_another_name_is_whole(self):
        self.check([("S", ("A", "b")), ("A", ("a",))], "a", ["b"])
        # Whole is a tree of the start, but one within another.
        self.check([("S", ("(", "S", ")")), ("S", ("a",))], "( a", [")"])

    def test_behind_what_nothing_goes_on_from(self):
        for text in ("+", "n n", "n + +", "x", "E", "n + T", "n n + n", "( )"):
            self.check(SUM, text, [])

    def test_names_are_not_told(self):
        self.check([("S", ("A", "B")), ("A", ("a",)), ("A", ()), ("B", ("b",))], "", ["a", "b"])
        self.check([("S", ("A", "B")), ("A", ("a",)), ("A", ()), ("B", ("b",))], "a", ["b"])

    def test_sorted_and_each_once(self):
        rules = [("S", ("A", "z")), ("S", ("B", "z")), ("S", ()), ("A", ("b",)), ("A", ("B",)), ("B", ("Z",)),
                 ("B", ("b", "b")), ("B", ("a",))]
        self.check(rules, "", ["", "Z", "a", "b"])
        self.check(rules, "b", ["b", "z"])

    def test_words_that_some_row_goes_on_with(self):
        # All rows of these have at most 5 words, or a word that may stand again and again.
        for rules, words, most in ((LATE, "bx", 5), ([("S", ("A", "B", "A")), ("A", ()), ("A", ("x",)), ("B", ("y", "A")),
                                                      ("B", ("A",))], "xy", 5)):
            grammar = Grammar(rules)
            plain = PlainTrees(rules)
            rows = [row for many in range(most + 1) for row in itertools.product(words, repeat=many)
                    if plain.of("S", row)]
            for many in range(4):
                for beginning in itertools.product(words, repeat=many):
                    wanted = {(row[many:many + 1] + ("",))[0] for row in rows if row[:many] == beginning}
                    self.assertEqual(goes_on(grammar, list(beginning)), sorted(wanted), (rules, beginning))

    def test_the_end_just_where_the_row_is_made(self):
        for at, rules in enumerate(sound_lists(72, 900, 8, 4, "ABCD", "xyz")):
            grammar = Grammar(rules)
            for row in chance_rows(at, 4, 5, "xxyyzA"):
                told = goes_on(grammar, row)
                self.assertEqual(told, sorted(set(told)))
                self.assertEqual("" in told, makes(grammar, row), (rules, row))
                last = [rules[rule][1][dot] for rule, dot, since in place_sets(grammar, row)[-1]
                        if dot < len(rules[rule][1])]
                heads = [head for head, parts in rules]
                self.assertEqual([word for word in told if word], sorted({part for part in last if part not in heads}))


class OwnTest(unittest.TestCase):
    def test_told_lists_are_the_askers_own(self):
        grammar = Grammar(SUM)
        told = place_sets(grammar, ["n", "+"])
        kept = [list(one) for one in told]
        told[0].clear()
        told[1].append((9, 9, 9))
        told.pop()
        self.assertEqual(place_sets(grammar, ["n", "+"]), kept)
        told = goes_on(grammar, ["n"])
        told.clear()
        self.assertEqual(goes_on(grammar, ["n"]), ["", "+"])

    def test_no_list_stands_twice(self):
        told = place_sets(Grammar(SUM), ["n", "n", "n", "n"])
        self.assertEqual(len({id(one) for one in told}), 5)

    def test_nothing_handed_in_is_changed(self):
        row = ["n", "+", "E"]
        grammar = Grammar(SUM)
        place_sets(grammar, row)
        goes_on(grammar, row)
        self.assertEqual(row, ["n", "+", "E"])
        self.assertEqual(grammar.rules, SUM)


class SoonTest(unittest.TestCase):
    def test_all_rules_alike(self):
        grammar = Grammar([("S", ("S",) * 6)] * 22 + [("S", ("S", "S")), ("S", ("a",))])
        with Soon(self, 6):
            told = place_sets(grammar, ["a"] * 40)
            self.assertEqual(goes_on(grammar, ["a"] * 40), ["", "a"])
        self.assertEqual(len(told), 41)
        self.assertGreater(len(told[40]), 4000)

    def test_many_names(self):
        rules = [(f"N{at}", tuple(f"N{(at + step) % 12}" for step in range(1, 7))) for at in range(12)]
        grammar = Grammar(rules + [(f"N{at}", ("a", "a")) for at in range(12)])
        with Soon(self, 6):
            self.assertEqual(len(place_sets(grammar, ["a"] * 40)), 41)

    def test_many_empty_names(self):
        rules = [(f"N{at}", (f"N{at + 1}",) * 2 + ("a",)) for at in range(11)]
        rules += [(f"N{at}", ()) for at in range(12)]
        grammar = Grammar(rules)
        with Soon(self, 6):
            self.assertEqual(len(place_sets(grammar, ["a"] * 40)), 41)
            self.assertEqual(goes_on(grammar, []), ["", "a"])


if __name__ == "__main__":
    unittest.main()
