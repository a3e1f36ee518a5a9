"""Points 14, 15, 17 and 18: what can be empty, what can begin."""

import unittest

from tests.helpers import Soon, first_rows, sound_lists
from wright.begin_checks import begins_lack, begins_stand, empties_lack, empties_stand
from wright.begins import begin_words, begins_of, empties_of
from wright.grammars import Grammar

SUM = [("E", ("E", "+", "T")), ("E", ("T",)), ("T", ("n",)), ("T", ("(", "E", ")"))]
# A, B and C can be empty: C by itself, B by C, A by both; D and S can not.
EMPTIES = [("S", ("A", "D", "z")), ("A", ("B", "C")), ("B", ("C", "C")), ("B", ("b",)), ("C", ()), ("C", ("c", "S")),
           ("D", ("A", "d"))]


class EmptiesTest(unittest.TestCase):
    def stands(self, rules, names):
        told = empties_of(Grammar(rules))
        self.assertIsInstance(told, list)
        self.assertEqual(sorted(name for name, rule in told), sorted(names))
        for at, (name, rule) in enumerate(told):
            self.assertEqual(rules[rule][0], name)
            ahead = [other for other, number in told[:at]]
            self.assertTrue(all(part in ahead for part in rules[rule][1]), told)
        self.assertIs(empties_stand(rules, told), True)
        self.assertIsNone(empties_lack(rules, [name for name, rule in told]))

    def test_none(self):
        self.stands(SUM, [])
        self.stands([("S", ("a",))], [])

    def test_one(self):
        self.stands([("S", ())], ["S"])
        self.stands([("S", ("S", "a")), ("S", ())], ["S"])

    def test_by_names_that_are_empty_themselves(self):
        self.stands(EMPTIES, ["A", "B", "C"])

    def test_not_by_a_word_or_a_name_that_is_never_empty(self):
        self.stands([("S", ("E", "x")), ("S", ("E", "N")), ("E", ()), ("N", ("n",))], ["E"])

    def test_each_once_where_several_rules_would_do(self):
        self.stands([("S", ("A", "B")), ("A", ()), ("A", ("B",)), ("B", ()), ("B", ())], ["S", "A", "B"])

    def test_against_the_plain_words(self):
        for rules in sound_lists(41, 1500):
            self.stands(rules, [name for name, rows in first_rows(rules).items() if () in rows])


class BeginsTest(unittest.TestCase):
    def stands(self, rules, pairs):
        told = begins_of(Grammar(rules))
        self.assertIsInstance(told, list)
        self.assertEqual(sorted((name, word) for name, word, rule, place in told), sorted(pairs))
        heads = [head for head, parts in rules]
        empty = [name for name, rows in first_rows(rules).items() if () in rows]
        for at, (name, word, rule, place) in enumerate(told):
            head, parts = rules[rule]
            self.assertEqual(head, name)
            self.assertIn(place, range(len(parts)))
            self.assertTrue(all(part in empty for part in parts[:place]), told)
            ahead = [other[:2] for other in told[:at]]
            self.assertTrue((parts[place], word) in ahead or parts[place] == word and word not in heads, told)
        self.assertIs(begins_stand(rules, empty, told), True)
        self.assertIsNone(begins_lack(rules, empty, [one[:2] for one in told]))

    def test_a_name_that_begins_by_itself(self):
        self.stands(SUM, [("E", "n"), ("E", "("), ("T", "n"), ("T", "(")])

    def test_grammars_without_empties(self):
        self.stands([("S", ("a", "S")), ("S", ("b",))], [("S", "a"), ("S", "b")])

    def test_nothing_begins(self):
        self.stands([("S", ("A", "A")), ("A", ())], [])

    def test_behind_parts_that_can_be_empty(self):
        pairs = [("S", word) for word in "bcd"] + [("A", word) for word in "bc"] + [("B", "b"), ("B", "c"), ("C", "c")]
        self.stands(EMPTIES, pairs + [("D", word) for word in "bcd"])

    def test_not_behind_a_word(self):
        self.stands([("S", ("E", "a", "E", "b")), ("E", ())], [("S", "a")])

    def test_names_that_begin_by_one_another(self):
        rules = [("S", ("A",)), ("A", ("B", "a")), ("B", ("A", "b")), ("B", ("c",)), ("A", ("S", "d"))]
        self.stands(rules, [(name, "c") for name in "SAB"])

    def test_against_the_plain_words(self):
        for rules in sound_lists(42, 1500):
            rows = first_rows(rules)
            self.stands(rules, [(name, row[0]) for name in rows for row in rows[name] if row])


class BeginWordsTest(unittest.TestCase):
    def test_words_begin_themselves(self):
        grammar = Grammar(SUM)
        self.assertEqual(begin_words(grammar, ("+", "T"), "n"), ["+"])
        self.assertEqual(begin_words(grammar, ("nowhere",), ""), ["nowhere"])

    def test_names(self):
        self.assertEqual(begin_words(Grammar(SUM), ("E", "+"), ""), ["(", "n"])

    def test_parts_as_a_tuple_and_as_a_list(self):
        grammar = Grammar(EMPTIES)
        handed = ["A", "C", "x", "D"]
        self.assertEqual(begin_words(grammar, handed, "y"), ["b", "c", "x"])
        self.assertEqual(begin_words(grammar, tuple(handed), "y"), ["b", "c", "x"])
        self.assertEqual(handed, ["A", "C", "x", "D"])

    def test_no_parts(self):
        for ahead in ("w", "E", "", "nowhere"):
            self.assertEqual(begin_words(Grammar(SUM), (), ahead), [ahead])
            self.assertEqual(begin_words(Grammar(EMPTIES), [], ahead), [ahead])

    def test_the_text_ahead_where_all_parts_can_be_empty(self):
        grammar = Grammar(EMPTIES)
        self.assertEqual(begin_words(grammar, ("C",), "z"), ["c", "z"])
        self.assertEqual(begin_words(grammar, ("C", "B"), ""), ["", "b", "c"])
        self.assertEqual(begin_words(grammar, ("A", "B"), "D"), ["D", "b", "c"])
        self.assertEqual(begin_words(grammar, ("A", "B"), "C"), ["C", "b", "c"])

    def test_the_text_ahead_where_not_all_parts_can_be_empty(self):
        grammar = Grammar(EMPTIES)
        self.assertEqual(begin_words(grammar, ("C", "D"), "z"), ["b", "c", "d"])
        self.assertEqual(begin_words(grammar, ("z", "C"), ""), ["z"])
        self.assertEqual(begin_words(grammar, ("C", "z"), "A"), ["c", "z"])

    def test_each_once_and_sorted(self):
        grammar = Grammar(EMPTIES)
        self.assertEqual(begin_words(grammar, ("C", "B", "A", "C"), "c"), ["b", "c"])
        self.assertEqual(begin_words(grammar, ("C", "B"), "Z"), ["Z", "b", "c"])

    def test_against_the_plain_words(self):
        for rules in sound_lists(43, 600):
            grammar = Grammar(rules)
            rows = first_rows(rules)
            for head, parts in rules:
                made = {()}
                for part in parts:
                    made = {(one + other)[:1] for one in made for other in rows.get(part, {(part,)})}
                for ahead in ("A", "x", "", "new"):
                    wanted = sorted({(one + (ahead,))[0] for one in made})
                    self.assertEqual(begin_words(grammar, parts, ahead), wanted)


class OwnListsTest(unittest.TestCase):
    def test_told_lists_are_the_askers_own(self):
        grammar = Grammar(EMPTIES)
        for ask in (empties_of, begins_of, lambda one: begin_words(one, ("A",), "z")):
            told = ask(grammar)
            kept = list(told)
            self.assertTrue(kept)
            self.assertEqual(ask(grammar), kept)
            told.clear()
            self.assertEqual(ask(grammar), kept)
        self.assertEqual(begins_of(grammar), begins_of(Grammar(EMPTIES)))

    def test_rules_changed_behind(self):
        rules = list(EMPTIES)
        grammar = Grammar(rules)
        rules.clear()
        self.assertEqual(len(empties_of(grammar)), 3)
        self.assertEqual(begin_words(grammar, ("A",), ""), ["", "b", "c"])
        self.assertEqual(grammar.rules, EMPTIES)


class SoonTest(unittest.TestCase):
    def test_each_of_many_names_begins_with_each_of_many_words(self):
        for step in (1, 11):
            # A ring of names, gone round with the order of the rules and against it.
            rules = [(f"N{at}", (f"N{(at + step) % 12}", "E", "E", "E", "E", "z")) for at in range(12)]
            rules += [(f"N{at}", ("E", "E", "E", "E", "E", f"w{at}")) for at in range(12)] + [("E", ())]
            with Soon(self, 3):
                grammar = Grammar(rules)
                told = begins_of(grammar)
                self.assertEqual(len(told), 144)
                for _ in range(50):
                    self.assertIs(begins_stand(rules, ["E"], told), True)
                    self.assertIsNone(begins_lack(rules, ["E"], [one[:2] for one in told]))
                for _ in range(2000):
                    self.assertEqual(len(begin_words(grammar, ("E", "E", "N3"), "")), 12)

    def test_chains_of_empties_against_the_order_of_the_rules(self):
        rules = [(f"N{at}", (f"N{at + 1}", f"w{at}")) for at in range(11)]
        rules += [(f"N{at}", (f"N{at + 1}",)) for at in range(11)] + [("N11", ())]
        with Soon(self, 2):
            told = empties_of(Grammar(rules))
            self.assertEqual([name for name, rule in told], [f"N{at}" for at in range(11, -1, -1)])
            self.assertEqual(len(begins_of(Grammar(rules))), 11 * 12 // 2)


if __name__ == "__main__":
    unittest.main()
