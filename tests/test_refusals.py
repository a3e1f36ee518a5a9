"""Points 41 and 42: what told sets of places lack, and refusals of rows."""

import copy
import itertools
import random
import unittest

from tests.helpers import Soon, chance_rows, plain_refusal_stands, plain_rows, plain_sets, plain_wanting, sound_lists
from wright.errors import Refused
from wright.grammars import Grammar
from wright.reader import Reader
from wright.refusals import refusal_of, refusal_stands, sets_lack
from wright.sets import place_sets
from wright.spans import makes

SUM = [("E", ("E", "+", "T")), ("E", ("T",)), ("T", ("n",)), ("T", ("(", "E", ")"))]
# A can be empty, and is asked for by rule 2 only when it was met already.
LATE = [("S", ("A", "B")), ("A", ()), ("B", ("A", "A", "x")), ("B", ("b",))]
NEST = [("S", ("(", "S", ")", "S")), ("S", ())]
EVERY = (SUM, LATE, NEST, [("S", ())], [("S", ("a",)), ("S", ("a", "S"))])


def changed(sets, number, without=None, more=()):
    """The sets with one tuple of a set left out, and more of them put in."""
    told = [list(one) for one in sets]
    told[number] = [one for one in told[number] if one != without] + list(more)
    return told


class SetsLackTest(unittest.TestCase):
    def check(self, rules, beginning, sets, wanting):
        """`wanting`: all that may be told."""
        self.assertEqual(plain_wanting(rules, beginning, sets), set(wanting))
        told = sets_lack(rules, beginning, sets)
        if wanting:
            self.assertIn(told, wanting)
        else:
            self.assertIsNone(told)

    def test_the_sets_of_beginnings_lack_nothing(self):
        for rules in EVERY:
            words = sorted({part for head, parts in rules for part in parts})
            for many in range(4):
                for row in itertools.product(words, repeat=many):
                    self.assertIsNone(sets_lack(rules, list(row), place_sets(Grammar(rules), list(row))))

    def test_a_tuple_of_a_set_and_a_tuple(self):
        told = sets_lack(SUM, [], [[]])
        self.assertEqual((type(told), type(told[1]), len(told), len(told[1])), (tuple, tuple, 2, 3))

    def test_in_any_order_and_twice(self):
        chance = random.Random(1)
        for rules, row in ((SUM, list("(n+n)")), (LATE, ["x"]), (NEST, list("(()"))):
            sets = [one * 2 for one in place_sets(Grammar(rules), row)]
            for _ in range(20):
                for one in sets:
                    chance.shuffle(one)
                self.check(rules, row, sets, [])
            # One of two like tuples may be left out.
            sets[1].pop()
            self.check(rules, row, sets, [])

    def test_without_a_rule_of_the_start(self):
        self.check([("S", ("a",)), ("S", ("b",))], [], [[(0, 0, 0)]], [(0, (1, 0, 0))])
        self.check([("S", ("a",)), ("S", ("b",))], [], [[(1, 0, 0)]], [(0, (0, 0, 0))])
        self.check([("S", ("a",)), ("S", ("b",))], [], [[]], [(0, (0, 0, 0)), (0, (1, 0, 0))])
        self.check([("S", ("A",)), ("A", ("a",)), ("S", ("b",))], [], [[(0, 0, 0), (1, 0, 0)]], [(0, (2, 0, 0))])

    def test_without_what_a_name_at_the_dot_puts_in(self):
        first = place_sets(Grammar(SUM), [])[0]
        self.check(SUM, [], changed([first], 0, (2, 0, 0)), [(0, (2, 0, 0))])
        self.check(SUM, [], changed([first], 0, (3, 0, 0)), [(0, (3, 0, 0))])
        sets = place_sets(Grammar(SUM), ["n", "+"])
        self.check(SUM, ["n", "+"], changed(sets, 2, (2, 0, 2)), [(2, (2, 0, 2))])
        # The same rule since another set does not do.
        self.check(SUM, ["n", "+"], changed(sets, 2, (2, 0, 2), [(2, 0, 0), (2, 0, 1)]), [(2, (2, 0, 2))])

    def test_without_what_a_dot_behind_all_parts_puts_in(self):
        sets = place_sets(Grammar(SUM), ["n"])
        self.check(SUM, ["n"], changed(sets, 1, (1, 1, 0)), [(1, (1, 1, 0))])
        self.check(SUM, ["n"], changed(sets, 1, (0, 1, 0)), [(1, (0, 1, 0))])
        sets = place_sets(Grammar(SUM), list("(n)"))
        self.check(SUM, list("(n)"), changed(sets, 3, (0, 1, 0)), [(3, (0, 1, 0))])
        self.check(SUM, list("(n)"), changed(sets, 2, (0, 1, 1)), [(2, (0, 1, 1))])

    def test_without_what_an_empty_rule_puts_in(self):
        sets = place_sets(Grammar(LATE), [])
        for one in ((0, 1, 0), (2, 1, 0), (2, 2, 0)):
            self.assertIn((0, one), plain_wanting(LATE, [], changed(sets, 0, one)))
            self.check(LATE, [], changed(sets, 0, one), [(0, one)])

    def test_without_what_the_next_word_puts_into_the_next_set(self):
        sets = place_sets(Grammar(SUM), ["n", "+"])
        self.check(SUM, ["n", "+"], changed(sets, 1, (2, 1, 0)), [(1, (2, 1, 0))])
        self.check(SUM, ["n", "+"], changed(sets, 2, (0, 2, 0)), [(2, (0, 2, 0))])
        # Empty sets behind do not do either.
        self.check(SUM, ["n", "+"], [sets[0], [], []], [(1, (2, 1, 0))])
        self.check(SUM, ["n"], [sets[0], [(2, 1, 1)]], [(1, (2, 1, 0))])

    def test_another_word_puts_nothing_into_the_next_set(self):
        first = place_sets(Grammar(SUM), [])[0]
        self.check(SUM, ["+"], [first, []], [])
        self.check(SUM, ["x", "n"], [first, [], []], [])

    def test_words_that_are_names(self):
        first = place_sets(Grammar(SUM), [])[0]
        for name in ("E", "T"):
            self.check(SUM, [name], [first, []], [])
            self.check(SUM, [name, "+"], [first, [], []], [])

    def test_more_than_is_needed(self):
        sets = place_sets(Grammar(SUM), ["n"])
        # What is put in asks for more itself.
        self.check(SUM, ["n"], changed(sets, 1, None, [(2, 1, 1)]), [])
        self.check(SUM, ["n"], changed(sets, 1, None, [(0, 2, 0)]), [(1, (2, 0, 1)), (1, (3, 0, 1))])
        self.check(SUM, ["n"], changed(sets, 0, None, [(3, 2, 0)]), [])
        self.check(SUM, ["n"], changed(sets, 0, None, [(2, 1, 0)]), [(0, (1, 1, 0))])
        self.check(SUM, ["n"], changed(sets, 1, None, [(2, 0, 1), (1, 1, 1)]), [])

    def test_what_means_nothing(self):
        sets = place_sets(Grammar(SUM), ["n"])
        nothing = [(4, 0, 0), (-1, 0, 0), (99, 1, 1), (0, 4, 0), (0, -1, 0), (1, 2, 0), (2, 9, 1), (0, 0, -1), (0, 0, 2),
                   (1, 0, 2), (2, 0, 40), (-4, 0, 0), (2, -2, 0), (2, 1, -1), (2, 1, -2)]
        for at in (0, 1):
            self.check(SUM, ["n"], changed(sets, at, None, nothing), [])
            for one in nothing:
                self.check(SUM, ["n"], changed(sets, at, None, [one]), [])
        # A since that is above the first set's number is none there, though it is one in the next.
        self.check(SUM, [], [sets[0] + [(0, 2, 1), (1, 1, 1)]], [])
        self.check(SUM, [], [[(0, 0, 0), (1, 0, 0), (2, 0, 0), (-1, 0, 0)]], [(0, (3, 0, 0))])
        self.assertEqual(sets_lack([("S", ("a",))], [], [[(False, 0, 0)]]), (0, (0, 0, 0)))
        self.assertEqual(sets_lack([("S", ("a",))], [], [[(0, 0, False)]]), (0, (0, 0, 0)))

    def test_rules_that_no_grammar_has(self):
        # A has no tree, B is not met.
        rules = [("S", ("A",)), ("A", ("a", "A")), ("B", ("b",))]
        self.check(rules, ["a"], plain_sets(rules, ["a"]), [])
        self.check(rules, ["b"], [[(0, 0, 0), (1, 0, 0)], []], [])

    def test_by_chance(self):
        chance = random.Random(2)
        many = 0
        for rules in sound_lists(201, 250):
            for row in chance_rows(chance.random(), 3, 4, "xyzA"):
                sets = [list(one) for one in plain_sets(rules, row)]
                for _ in range(chance.choice([1, 1, 2, 3])):
                    at = chance.randrange(len(sets))
                    if chance.random() < 0.7 and sets[at]:
                        sets[at].pop(chance.randrange(len(sets[at])))
                    else:
                        sets[at].append((chance.randrange(-1, len(rules) + 1), chance.randrange(-1, 5),
                                         chance.randrange(-1, at + 2)))
                wanting = plain_wanting(rules, row, sets)
                many += bool(wanting)
                told = sets_lack(rules, row, sets)
                self.assertTrue(told in wanting if wanting else told is None, (rules, row, sets, told))
        self.assertGreater(many, 100)


class RefusalTest(unittest.TestCase):
    def check(self, rules, row, place):
        sets = None if place is None else plain_sets(rules, row[:place])
        self.assertEqual(refusal_of(Grammar(rules), row), None if place is None else (place, sets))
        if place is not None:
            self.assertIs(refusal_stands(rules, row, (place, sets)), True)
            self.assertIs(plain_refusal_stands(rules, row, (place, sets)), True)

    def test_at_the_first_word(self):
        for row in (["+"], [")"], ["+", "n"], ["w"]):
            self.check(SUM, row, 0)
        self.check([("S", ())], ["x"], 0)

    def test_amid_the_row(self):
        self.check(SUM, ["n", "n"], 1)
        self.check(SUM, list("n+(n))+"), 5)
        self.check(SUM, list("((n)n"), 4)
        self.check(LATE, ["x", "x"], 1)

    def test_behind_the_last_word(self):
        self.check(SUM, [], 0)
        self.check(SUM, list("n+"), 2)
        self.check(SUM, list("((n)"), 4)
        self.check(NEST, list("(()"), 3)
        self.check(LATE, [], 0)

    def test_rows_that_the_grammar_makes_have_none(self):
        for row in ("n", "n+n", "((n))+n"):
            self.check(SUM, list(row), None)
        for row in ("", "()", "(())()"):
            self.check(NEST, list(row), None)
        self.check([("S", ())], [], None)

    def test_a_text_that_is_a_name_or_stands_in_no_rule(self):
        self.check(SUM, ["E"], 0)
        self.check(SUM, ["n", "+", "T"], 2)
        self.check(SUM, ["n", "+", "much"], 2)
        self.check(NEST, ["S"], 0)

    def test_the_form(self):
        told = refusal_of(Grammar(SUM), ["n", "n"])
        self.assertEqual([type(told), type(told[0]), type(told[1]), type(told[1][0])], [tuple, int, list, list])

    def test_the_longest_beginning_by_all_rows(self):
        for rules in (SUM, LATE, NEST):
            every = plain_rows(rules, 9)
            beginnings = {row[:many] for row in every for many in range(len(row) + 1)}
            words = sorted({part for head, parts in rules for part in parts})
            for row in itertools.product(words, repeat=3):
                told = refusal_of(Grammar(rules), list(row))
                if row in every:
                    self.assertIsNone(told)
                else:
                    self.assertEqual(told[0], max(many for many in range(4) if row[:many] in beginnings))

    def test_by_chance(self):
        many = 0
        for rules in sound_lists(202, 900):
            grammar = Grammar(rules)
            for row in chance_rows(203, 6, 6, "xyz"):
                told = refusal_of(grammar, row)
                self.assertEqual(told is None, makes(grammar, row))
                if told is not None:
                    many += 1
                    self.assertEqual(told[1], plain_sets(rules, row)[:told[0] + 1])
                    self.assertTrue(told[1][-1])
                    self.assertFalse(any(plain_sets(rules, row)[told[0] + 1:]))
                    self.assertIs(refusal_stands(rules, row, told), True)
        self.assertGreater(many, 500)

    def test_the_place_is_that_of_the_reader(self):
        for rules in (SUM, LATE, NEST):
            reader = Reader(Grammar(rules))
            words = sorted({part for head, parts in rules for part in parts})
            for row in itertools.product(words, repeat=4):
                told = refusal_of(Grammar(rules), list(row))
                if told is not None:
                    with self.assertRaises(Refused) as caught:
                        reader.read(list(row))
                    self.assertEqual(caught.exception.place, told[0])


class StandsTest(unittest.TestCase):
    def check(self, rules, row, refusal, wanted):
        self.assertIs(plain_refusal_stands(rules, row, refusal), wanted)
        self.assertIs(refusal_stands(rules, row, refusal), wanted)

    def test_another_place(self):
        row = ["n", "n", "n"]
        sets = plain_sets(SUM, row)
        self.check(SUM, row, (1, sets[:2]), True)
        for place in (0, 2, 3, -1, 4):
            self.check(SUM, row, (place, sets[:2]), False)
        # The next word stands at a dot here.
        self.check(SUM, row, (0, sets[:1]), False)

    def test_places_below_nought_and_above_the_number_of_words(self):
        row = ["n", "+"]
        sets = plain_sets(SUM, row)
        self.check(SUM, row, (2, sets), True)
        self.check(SUM, row, (3, sets + [[]]), False)
        self.check(SUM, row, (3, sets), False)
        self.check(SUM, row, (-1, []), False)
        self.check(SUM, row, (-1, sets), False)
        self.check(SUM, [], (1, [sets[0], []]), False)
        self.check(SUM, [], (-1, [sets[0]]), False)

    def test_a_truth_is_no_place(self):
        row = ["n", "n"]
        sets = plain_sets(SUM, ["n"])
        self.assertIs(refusal_stands(SUM, row, (True, sets)), False)
        self.assertIs(refusal_stands(SUM, row, (1, sets)), True)

    def test_another_number_of_sets(self):
        row = ["n", "n"]
        sets = plain_sets(SUM, row)
        for told in ([], sets[:1], sets, sets + [[]]):
            self.check(SUM, row, (1, told), False)

    def test_other_sets(self):
        row = list("(n(")
        sets = plain_sets(SUM, row[:2])
        self.check(SUM, row, (2, sets), True)
        for at, one in enumerate(sets):
            for item in one:
                self.check(SUM, row, (2, changed(sets, at, item)), False)
        self.check(SUM, row, (2, sets[::-1]), False)

    def test_in_any_order_twice_and_with_what_means_nothing(self):
        row = list("(n(")
        sets = [one[::-1] + one + [(9, 0, 0), (3, 1, 9), (3, 0, -1), (3, 7, 0)] for one in plain_sets(SUM, row[:2])]
        self.check(SUM, row, (2, sets), True)

    def test_more_than_is_needed(self):
        row = ["n", "n"]
        sets = plain_sets(SUM, ["n"])
        # Of more rules begun than need be none is at its n.
        self.check(SUM, row, (1, changed(sets, 1, None, [(3, 2, 0)])), True)
        self.check(SUM, row, (1, changed(sets, 1, None, [(3, 0, 1)])), True)
        # At the next word, which it is then not refused by.
        self.check(SUM, row, (1, changed(sets, 1, None, [(2, 0, 1)])), False)
        self.check(SUM, row, (1, changed(sets, 1, None, [(2, 0, 0)])), False)

    def test_the_next_word_at_a_dot_of_what_means_nothing(self):
        row = ["n", "n"]
        sets = plain_sets(SUM, ["n"])
        self.check(SUM, row, (1, changed(sets, 1, None, [(2, 0, 2), (2, 0, -1)])), True)

    def test_where_the_rows_end_could_be(self):
        row = ["n", "+"]
        sets = plain_sets(SUM, row)
        for one, wanted in (((1, 1, 0), False), ((0, 3, 0), False), ((0, 3, 1), True), ((1, 1, 1), True),
                            ((2, 1, 2), False), ((3, 3, 2), False), ((1, 1, 9), True), ((3, 2, 0), True)):
            self.check(SUM, row, (2, changed(sets, 2, None, [one])), wanted)
        # These lack nothing, but the end could be there.
        told = changed(sets, 2, None, [(0, 1, 0), (1, 1, 0)])
        self.assertIsNone(sets_lack(SUM, row, told))
        self.check(SUM, row, (2, told), False)
        # A whole rule of the start since another set is no end, and one of another name is none either.
        rules = [("S", ("a", "B")), ("S", ("c",)), ("B", ("b", "S"))]
        sets = plain_sets(rules, ["a", "b"])
        self.check(rules, ["a", "b"], (2, changed(sets, 2, None, [(0, 1, 0), (2, 0, 2)])), True)
        self.check(rules, ["a", "b"], (2, changed(sets, 2, None, [(1, 1, 0)])), False)
        self.check(rules, ["a", "b"], (2, changed(sets, 2, None, [(1, 1, 1)])), True)

    def test_rows_that_the_grammar_makes(self):
        for row in (["n"], list("n+n"), list("(n)")):
            sets = plain_sets(SUM, row)
            for place in range(len(row) + 1):
                self.check(SUM, row, (place, sets[:place + 1]), False)

    def test_a_next_word_that_is_a_name(self):
        sets = plain_sets(SUM, ["n", "+"])
        self.check(SUM, ["n", "+", "T"], (2, sets), True)
        self.check(SUM, ["E"], (0, sets[:1]), True)
        self.check(SUM, ["T", "+"], (1, [sets[0], []]), True)
        self.check(NEST, ["S"], (0, plain_sets(NEST, [])), True)

    def test_by_chance(self):
        chance = random.Random(3)
        told = {True: 0, False: 0}
        for rules in sound_lists(204, 400):
            for row in chance_rows(chance.random(), 3, 4, "xyzA"):
                place = chance.randrange(len(row) + 1)
                sets = plain_sets(rules, row[:place])
                if chance.random() < 0.5:
                    at = chance.randrange(len(sets))
                    sets[at].append((chance.randrange(len(rules)), chance.randrange(4), chance.randrange(at + 1)))
                wanted = plain_refusal_stands(rules, row, (place, sets))
                told[wanted] += 1
                self.assertIs(refusal_stands(rules, row, (place, sets)), wanted)
                if wanted:
                    self.assertIs(makes(Grammar(rules), row), False)
        self.assertGreater(min(told.values()), 50)


class OwnTest(unittest.TestCase):
    def test_told_lists_are_the_askers_own(self):
        grammar = Grammar(SUM)
        row = ["n", "+", "+"]
        told = refusal_of(grammar, row)
        kept = copy.deepcopy(told)
        other = refusal_of(grammar, row)
        self.assertEqual(len({id(one) for one in told[1] + other[1] + [told[1], other[1]]}), 8)
        for one in told[1]:
            one.clear()
        told[1].clear()
        self.assertEqual((other, refusal_of(grammar, row)), (kept, kept))

    def test_nothing_handed_in_is_changed(self):
        handed = (list(SUM), ["n", "n"], (1, plain_sets(SUM, ["n"])))
        kept = copy.deepcopy(handed)
        refusal_of(Grammar(handed[0]), handed[1])
        refusal_stands(*handed)
        sets_lack(handed[0], handed[1][:1], handed[2][1])
        self.assertEqual(handed, kept)


class SoonTest(unittest.TestCase):
    def test_the_longest_rows(self):
        rules = [(f"N{at}", tuple(f"N{(at + step) % 12}" for step in range(1, 7))) for at in range(12)]
        for told in ([("S", ("S",) * 6)] * 22 + [("S", ("S", "S")), ("S", ("a",))],
                     rules + [(f"N{at}", ("a", "a")) for at in range(12)],
                     [(f"N{at}", (f"N{at + 1}",) * 2 + ("a",)) for at in range(11)] + [(f"N{at}", ()) for at in range(12)]):
            for row in (["a"] * 39 + ["b"], ["a"] * 20 + ["b"] * 20):
                with Soon(self, 8):
                    refusal = refusal_of(Grammar(told), row)
                    self.assertEqual(refusal[0], row.index("b"))
                    self.assertIs(refusal_stands(told, row, refusal), True)

    def test_sets_full_of_all_tuples(self):
        rules = [(f"N{at}", tuple(f"N{(at + step) % 12}" for step in range(1, 7))) for at in range(12)]
        rules += [(f"N{at}", ("a", "a")) for at in range(12)]
        sets = [[(number, dot, since) for number, rule in enumerate(rules) for dot in range(len(rule[1]) + 1)
                 for since in range(at + 1)] for at in range(41)]
        with Soon(self, 8):
            self.assertIsNone(sets_lack(rules, ["a"] * 40, sets))


if __name__ == "__main__":
    unittest.main()
