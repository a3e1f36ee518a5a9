"""Points 23 and 24: places, closed lists of places, and lists moved on by a part."""

import random
import unittest

from tests.helpers import Soon, plain_closed, sound_lists
from wright.begins import begin_words
from wright.grammars import Grammar
from wright.places import closed_list, moved_list, part_at

SUM = [("E", ("E", "+", "T")), ("E", ("T",)), ("T", ("n",)), ("T", ("(", "E", ")"))]
# B and C can be empty.
EMPTIES = [("S", ("A", "B", "C")), ("A", ("a",)), ("B", ()), ("B", ("b",)), ("C", ("B", "B")), ("C", ("c", "S"))]


def every_place(rules, texts):
    every = rules + [("", (rules[0][0],))]
    return [(number, dot, text) for number, rule in enumerate(every) for dot in range(len(rule[1]) + 1)
            for text in texts]


class PartTest(unittest.TestCase):
    def test_within_the_parts(self):
        grammar = Grammar(SUM)
        for number, (head, parts) in enumerate(SUM):
            for dot, part in enumerate(parts):
                for ahead in ("", "n", "E", "elsewhere"):
                    self.assertEqual(part_at(grammar, (number, dot, ahead)), part)

    def test_behind_all_parts(self):
        for rules in (SUM, EMPTIES):
            for number, (head, parts) in enumerate(rules):
                self.assertIsNone(part_at(Grammar(rules), (number, len(parts), "")))

    def test_the_rule_behind_the_rules(self):
        for rules in (SUM, EMPTIES):
            grammar = Grammar(rules)
            self.assertEqual(part_at(grammar, (len(rules), 0, "")), rules[0][0])
            self.assertIsNone(part_at(grammar, (len(rules), 1, "")))


class ClosedTest(unittest.TestCase):
    def check(self, rules, places, wanted):
        self.assertEqual(closed_list(Grammar(rules), places), wanted)
        self.assertEqual(plain_closed(rules, places), wanted)

    def test_none_at_all(self):
        self.check(SUM, [], [])

    def test_the_rule_behind_the_rules(self):
        self.check(SUM, [(4, 0, "")], [
            (0, 0, ""), (0, 0, "+"), (1, 0, ""), (1, 0, "+"), (2, 0, ""), (2, 0, "+"), (3, 0, ""), (3, 0, "+"),
            (4, 0, "")])
        self.check(SUM, [(4, 1, "")], [(4, 1, "")])

    def test_a_word_at_the_dot_and_nothing_at_it(self):
        for place in ((0, 1, ""), (2, 0, "n"), (3, 2, "+"), (0, 3, "E"), (1, 1, "")):
            self.check(SUM, [place], [place])

    def test_what_stands_behind_the_part_at_the_dot(self):
        self.check(SUM, [(3, 1, "n")], [
            (0, 0, ")"), (0, 0, "+"), (1, 0, ")"), (1, 0, "+"), (2, 0, ")"), (2, 0, "+"), (3, 0, ")"), (3, 0, "+"),
            (3, 1, "n")])

    def test_the_text_ahead_where_nothing_stands_behind(self):
        for ahead in ("", "n", "E", "elsewhere"):
            self.check(SUM, [(0, 2, ahead)], [(0, 2, ahead), (2, 0, ahead), (3, 0, ahead)])

    def test_parts_behind_the_dot_that_can_be_empty(self):
        self.check(EMPTIES, [(0, 0, "z")], [
            (0, 0, "z"), (1, 0, "b"), (1, 0, "c"), (1, 0, "z")])
        self.check(EMPTIES, [(0, 1, "S")], [
            (0, 1, "S"), (2, 0, "S"), (2, 0, "b"), (2, 0, "c"), (3, 0, "S"), (3, 0, "b"), (3, 0, "c")])
        self.check(EMPTIES, [(4, 0, "")], [(2, 0, ""), (2, 0, "b"), (3, 0, ""), (3, 0, "b"), (4, 0, "")])

    def test_the_text_ahead_handed_on_from_rule_to_rule(self):
        self.check(EMPTIES, [(0, 2, "S")], [
            (0, 2, "S"), (2, 0, "S"), (2, 0, "b"), (3, 0, "S"), (3, 0, "b"), (4, 0, "S"), (5, 0, "S")])

    def test_several_places_of_one_rule_and_dot(self):
        self.check(EMPTIES, [(0, 1, "y"), (0, 1, "x")], sorted(
            [(0, 1, text) for text in "xy"] + [(number, 0, text) for number in (2, 3) for text in "bcxy"]))

    def test_in_any_order_and_perhaps_twice(self):
        places = [(3, 1, "n"), (0, 2, ""), (4, 0, ""), (0, 2, "E"), (2, 1, "q")]
        wanted = plain_closed(SUM, places)
        chance = random.Random(81)
        for _ in range(20):
            chance.shuffle(places)
            self.check(SUM, places, wanted)
            self.check(SUM, places + chance.sample(places, 3), wanted)

    def test_a_list_that_is_closed_already(self):
        for rules in (SUM, EMPTIES):
            grammar = Grammar(rules)
            once = closed_list(grammar, [(len(rules), 0, "")])
            self.assertEqual(closed_list(grammar, once), once)
            self.assertEqual(closed_list(grammar, once[::-1]), once)

    def test_each_place_by_itself(self):
        for rules in (SUM, EMPTIES):
            grammar = Grammar(rules)
            for place in every_place(rules, ("", "b", "S", "E", "elsewhere")):
                self.assertEqual(closed_list(grammar, [place]), plain_closed(rules, [place]), place)

    def test_what_is_added_is_what_begins(self):
        grammar = Grammar(EMPTIES)
        for number, dot, ahead in every_place(EMPTIES, ("", "b", "S")):
            name = part_at(grammar, (number, dot, ahead))
            told = closed_list(grammar, [(number, dot, ahead)])
            if name in ("A", "B", "C", "S"):
                parts = EMPTIES[number][1] if number < 6 else ("S",)
                for text in begin_words(grammar, parts[dot + 1:], ahead):
                    for other, rule in enumerate(EMPTIES):
                        if rule[0] == name:
                            self.assertIn((other, 0, text), told)


class MovedTest(unittest.TestCase):
    def check(self, rules, places, part, wanted):
        self.assertEqual(moved_list(Grammar(rules), places, part), wanted)

    def test_by_a_word(self):
        room = closed_list(Grammar(SUM), [(4, 0, "")])
        self.check(SUM, room, "n", [(2, 1, ""), (2, 1, "+")])
        self.check(SUM, [(0, 1, "")], "+", [(0, 2, ""), (2, 0, ""), (3, 0, "")])

    def test_by_a_name(self):
        room = closed_list(Grammar(SUM), [(4, 0, "")])
        self.check(SUM, room, "E", [(0, 1, ""), (0, 1, "+"), (4, 1, "")])
        self.check(SUM, room, "T", [(1, 1, ""), (1, 1, "+")])
        self.check(EMPTIES, [(0, 0, "z")], "A", closed_list(Grammar(EMPTIES), [(0, 1, "z")]))

    def test_by_a_part_that_stands_at_no_dot(self):
        room = closed_list(Grammar(SUM), [(4, 0, "")])
        for part in ("+", ")", "elsewhere"):
            self.check(SUM, room, part, [])
        self.check(SUM, [], "E", [])
        self.check(SUM, [(0, 3, ""), (4, 1, "")], "E", [])
        # Ahead of the dot, and behind the part at it, is not at it.
        self.check(SUM, [(0, 1, "")], "E", [])
        self.check(SUM, [(0, 1, "")], "T", [])

    def test_lists_that_are_not_closed(self):
        # T stands at no dot, though it would if the list were closed.
        self.check(SUM, [(4, 0, "")], "T", [])
        self.check(SUM, [(4, 0, "")], "E", [(4, 1, "")])
        self.check(SUM, [(3, 1, "q")], "E", [(3, 2, "q")])

    def test_in_any_order_and_perhaps_twice(self):
        places = [(3, 1, "n"), (0, 0, ""), (4, 0, ""), (0, 0, "E"), (3, 1, "n")]
        wanted = [(0, 1, ""), (0, 1, "E"), (3, 2, "n"), (4, 1, "")]
        self.check(SUM, places, "E", wanted)
        self.check(SUM, places[::-1], "E", wanted)

    def test_to_the_end_of_a_rule(self):
        self.check(SUM, [(1, 0, "+")], "T", [(1, 1, "+")])
        self.check(SUM, [(3, 2, "E")], ")", [(3, 3, "E")])


class PlainTest(unittest.TestCase):
    def test_against_the_plain_words(self):
        chance = random.Random(82)
        for rules in sound_lists(82, 900):
            grammar = Grammar(rules)
            every = rules + [("", (rules[0][0],))]
            places = chance.sample(every_place(rules, ("", "x", "y", "A", "q")), 5)
            self.assertEqual(closed_list(grammar, places), plain_closed(rules, places), (rules, places))
            for part in "ABCxq":
                moved = [(number, dot + 1, ahead) for number, dot, ahead in places
                         if every[number][1][dot:dot + 1] == (part,)]
                self.assertEqual(moved_list(grammar, places, part), plain_closed(rules, moved), (rules, places))


class OwnTest(unittest.TestCase):
    def test_nothing_handed_in_is_changed(self):
        grammar = Grammar(SUM)
        places = [(4, 0, ""), (0, 1, "+"), (4, 0, "")]
        closed_list(grammar, places)
        moved_list(grammar, places, "E")
        self.assertEqual(places, [(4, 0, ""), (0, 1, "+"), (4, 0, "")])
        self.assertEqual(grammar.rules, SUM)

    def test_told_lists_are_the_askers_own(self):
        grammar = Grammar(SUM)
        once = closed_list(grammar, [(4, 0, "")])
        again = closed_list(grammar, once)
        once.clear()
        self.assertEqual(len(again), 9)
        again.append((9, 9, ""))
        self.assertEqual(len(closed_list(grammar, [(4, 0, "")])), 9)
        told = moved_list(grammar, [(0, 1, "")], "+")
        told.clear()
        self.assertEqual(len(moved_list(grammar, [(0, 1, "")], "+")), 3)
        empty = moved_list(grammar, [], "E")
        empty.append((0, 0, ""))
        self.assertEqual(moved_list(grammar, [], "E"), [])


class SoonTest(unittest.TestCase):
    def test_many_texts_ahead(self):
        # A ring of names with nothing but empty ones behind: every text is handed on through all of it.
        rules = [(f"N{at}", (f"N{(at + 1) % 9}", "E", "E", "E", "E", "E")) for at in range(8)]
        rules += [("N8", ("N0", "z")), ("N8", ("x",)), ("E", ())] + [("E", (f"w{at}",)) for at in range(11)]
        grammar = Grammar(rules)
        texts = [f"v{at}" for at in range(150)] + ["", "N0", "E"]
        with Soon(self, 4):
            told = closed_list(grammar, [(len(rules), 0, text) for text in texts])
            self.assertEqual(len(told), 2 * len(texts) + 1 + 9 * (len(texts) + 12))
            places = every_place(rules, texts)
            self.assertEqual(len(set(closed_list(grammar, places)) - set(places)), 12 * 11 + 1 + 9 * 12)
            self.assertGreater(len(moved_list(grammar, places, "N1")), 153)

    def test_one_name_with_all_rules(self):
        rules = [("S", ("S", "S", f"a{at}", f"b{at}", "S", f"c{at}")) for at in range(23)] + [("S", ("x",))]
        grammar = Grammar(rules)
        places = every_place(rules, [f"a{at}" for at in range(23)] + [f"v{at}" for at in range(50)])
        with Soon(self, 4):
            self.assertGreater(len(closed_list(grammar, places)), len(places))
            for _ in range(100):
                closed_list(grammar, [(24, 0, "")])


if __name__ == "__main__":
    unittest.main()
