"""Points 3 and 37 to 39: rows read with tables, and readers made of grammars."""

import copy
import itertools
import random
import unittest

from tests.helpers import (
    PlainTrees, Soon, chance_rows, chance_table, empty_names, first_rows, long_rules, plain_deeds, plain_joined,
    plain_reading, plain_rooms, plain_row, plain_sets, plain_stands, plain_table_lacks, plain_table_stands,
    plain_tree_deeds, sound_lists, wide_rules)
from wright import errors
from wright.clash_papers import deeds_of_tree
from wright.deed_trees import tree_of
from wright.deeds import clashes_of, deeds_of
from wright.grammars import Grammar
from wright.joined import joined_plan
from wright.reader import Reader, read_with
from wright.rooms import rooms_of
from wright.spans import first_trees
from wright.strengths import put_right
from wright.table_checks import table_lacks, table_stands

SUM = [("E", ("E", "+", "n")), ("E", ("n",))]
N = (1, ("n",))
# A and B can be empty.
EMPTY = [("S", ("A", "B", "x")), ("A", ()), ("B", ()), ("A", ("y",))]
STRONG = [("E", ("E", "+", "E")), ("E", ("E", "*", "E")), ("E", ("n",))]
LIKE = [("S", ("a", "A", "x")), ("S", ("b", "A", "y")), ("A", ("c",))]
# Without a clash, but for its joined rooms.
APART = [("S", ("a", "A", "d")), ("S", ("b", "B", "d")), ("S", ("a", "B", "e")), ("S", ("b", "A", "e")),
         ("A", ("c",)), ("B", ("c",))]
# Each x costs two deeds.
ROW = [("L", ("L", "x")), ("L", ("x",))]
# Four trees of no words, of 43 rules each, stand ahead of each x: 175 deeds for each.
MAKES = [("S", ("S", "T")), ("S", ("T",)), ("T", ("A", "A", "A", "A", "x")), ("A", ("B",) * 6), ("B", ("C",) * 6),
         ("C", ()), ("T", ("y",))]


def table_of(rules, join=False):
    plan = plain_rooms(rules)
    if join:
        plan = plain_joined(plan)[0]
    return plan, plain_deeds(rules, plan)


def told_of(call):
    """What is told, or the place of the refusal, or None where there are too many deeds."""
    try:
        return call()
    except errors.Refused as refused:
        return refused.place
    except errors.TooMany:
        return None


def longest_beginning(rules, row):
    sets = plain_sets(rules, row)
    return max(many for many in range(len(row) + 1) if sets[many])


class ReadWithTest(unittest.TestCase):
    def check(self, rules, row, wanted, table=None):
        plan, deeds = table_of(rules) if table is None else table
        self.assertIs(table_stands(rules, plan, deeds), True)
        told = told_of(lambda: read_with(rules, plan, deeds, row))
        self.assertEqual(told, wanted)
        self.assertEqual(plain_reading(rules, plan, deeds, row), wanted)

    def test_one_word(self):
        self.check(SUM, ["n"], ([("step", "n"), ("make", 1), ("done",)], N))

    def test_several_words(self):
        one = (0, (N, "+", "n"))
        self.check(SUM, ["n", "+", "n", "+", "n"], ([
            ("step", "n"), ("make", 1), ("step", "+"), ("step", "n"), ("make", 0), ("step", "+"), ("step", "n"),
            ("make", 0), ("done",)], (0, (one, "+", "n"))))

    def test_a_tuple_of_a_list_and_a_tree(self):
        told = read_with(SUM, *table_of(SUM), ["n", "+", "n"])
        self.assertEqual([type(told), len(told), type(told[0]), type(told[1])], [tuple, 2, list, tuple])
        self.assertEqual({type(deed) for deed in told[0]}, {tuple})

    def test_no_words(self):
        self.check([("S", ())], [], ([("make", 0), ("done",)], (0, ())))
        self.check(SUM, [], 0)

    def test_names_that_can_be_empty(self):
        self.check(EMPTY, ["x"], ([("make", 1), ("make", 2), ("step", "x"), ("make", 0), ("done",)],
                                  (0, ((1, ()), (2, ()), "x"))))
        self.check(EMPTY, ["y", "x"], ([("step", "y"), ("make", 3), ("make", 2), ("step", "x"), ("make", 0), ("done",)],
                                       (0, ((3, ("y",)), (2, ()), "x"))))
        rules = [("S", ("A", "A", "B")), ("A", ("B", "B")), ("B", ())]
        one = (1, ((2, ()), (2, ())))
        self.check(rules, [], (plain_tree_deeds((0, (one, one, (2, ())))) + [("done",)], (0, (one, one, (2, ())))))

    def test_children_in_their_order(self):
        rules = [("S", ("a", "B", "c", "D", "e", "f")), ("B", ("b", "b")), ("D", ())]
        tree = (0, ("a", (1, ("b", "b")), "c", (2, ()), "e", "f"))
        self.check(rules, list("abbcef"), (plain_tree_deeds(tree) + [("done",)], tree))

    def test_refused_at_the_first_word(self):
        for row in (["+"], ["+", "n"], ["x", "n"], ["E"], ["m"]):
            self.check(SUM, row, 0)
        self.check(EMPTY, ["z"], 0)
        self.check([("S", ())], ["x"], 0)

    def test_refused_amid_the_row(self):
        self.check(SUM, ["n", "n"], 1)
        self.check(SUM, ["n", "+", "+", "n"], 2)
        self.check(SUM, ["n", "+", "n", "n", "+"], 3)
        self.check(EMPTY, ["y", "y", "x"], 1)

    def test_refused_behind_the_last_word(self):
        self.check(SUM, ["n", "+"], 2)
        self.check(SUM, ["n", "+", "n", "+"], 4)
        self.check(EMPTY, ["y"], 1)
        self.check(EMPTY, [], 0)
        self.check(EMPTY, ["x", "x"], 1)

    def test_words_that_stand_in_no_rule(self):
        self.check(SUM, ["n", "w"], 1)
        self.check(SUM, ["n", "+", "w"], 2)
        self.check(SUM, ["n", "+", "n", "~!"], 3)
        self.check(SUM, ["step"], 0)

    def test_a_name_in_the_row_is_met_by_nothing(self):
        self.check(SUM, ["E", "+", "n"], 0)
        self.check(SUM, ["n", "+", "E"], 2)
        self.check(EMPTY, ["A", "x"], 0)

    def test_a_table_without_the_step_that_a_make_needs(self):
        plan, deeds = table_of(SUM)
        steps = [step for step in plan[1] if step != (0, "E", 1)]
        self.check(SUM, ["n"], 1, ((plan[0], steps), deeds))
        self.check(SUM, ["n", "+", "n"], 1, ((plan[0], steps), deeds))
        plan, deeds = table_of(EMPTY)
        for part, row, place in (("B", ["y", "x"], 1), ("A", ["x"], 0), ("A", ["y", "x"], 1), ("S", ["x"], 1),
                                 ("S", ["y", "x"], 2)):
            steps = [step for step in plan[1] if step[1] != part]
            self.check(EMPTY, row, place, ((plan[0], steps), deeds))

    def test_a_table_without_a_deed(self):
        plan, deeds = table_of(SUM)
        for deed, place in (((0, "n", ("step", 2)), 0), ((2, "+", ("make", 1)), 1), ((1, "+", ("step", 3)), 1),
                            ((3, "n", ("step", 4)), 2), ((4, "", ("make", 0)), 3), ((1, "", ("done",)), 3)):
            self.check(SUM, ["n", "+", "n"], place, (plan, [one for one in deeds if one != deed]))
        self.check(SUM, ["n"], 0, (([[]], []), []))

    def test_a_make_by_a_word_that_is_then_refused(self):
        plan, deeds = table_of(SUM)
        rooms = [list(room) for room in plan[0]]
        rooms[2].append((1, 1, "q"))
        self.check(SUM, ["n", "q"], 1, ((rooms, plan[1]), deeds + [(2, "q", ("make", 1))]))
        rooms[2].append((1, 1, "E"))
        self.check(SUM, ["n", "E"], 1, ((rooms, plan[1]), deeds + [(2, "E", ("make", 1))]))

    def test_tables_in_another_order_and_with_rooms_more(self):
        plan, deeds = table_of(SUM)
        # Rooms 2 and 4 have changed their numbers, and two rooms are led to by no step.
        other = {0: 0, 1: 1, 2: 4, 3: 3, 4: 2}
        rooms = [plan[0][at][::-1] for at in (0, 1, 4, 3, 2)] + [[], [(0, 3, "x")]]
        steps = [(other[room], part, other[to]) for room, part, to in plan[1][::-1]]
        deeds = [(other[room], word, ("step", other[deed[1]]) if deed[0] == "step" else deed)
                 for room, word, deed in deeds[::-1]]
        for row in (["n"], ["n", "+", "n"], ["n", "+"], ["+"]):
            self.check(SUM, row, plain_reading(SUM, *table_of(SUM), row), ((rooms, steps), deeds))

    def test_joined_rooms(self):
        for row in (list("acx"), list("bcy"), list("acy"), list("bcx"), list("ac"), list("c")):
            wanted = plain_reading(LIKE, *table_of(LIKE), row)
            self.check(LIKE, row, wanted, table_of(LIKE, True))

    def test_rules_that_loop(self):
        rules = [("S", ("S",)), ("S", ("a",))]
        rooms = [[(2, 0, ""), (0, 0, ""), (1, 0, "")], [(2, 1, ""), (0, 1, "")], [(1, 1, "")]]
        steps = [(0, "S", 1), (0, "a", 2)]
        deeds = [(0, "a", ("step", 2)), (2, "", ("make", 1))]
        self.check(rules, ["a"], ([("step", "a"), ("make", 1), ("done",)], (1, ("a",))),
                   ((rooms, steps), deeds + [(1, "", ("done",))]))
        self.check(rules, ["a"], None, ((rooms, steps), deeds + [(1, "", ("make", 0))]))
        self.check(rules, ["b"], 0, ((rooms, steps), deeds + [(1, "", ("make", 0))]))


class ManyDeedsTest(unittest.TestCase):
    def reading(self, rules, row):
        return told_of(lambda: read_with(rules, *table_of(rules), row))

    def test_nearly_four_thousand(self):
        deeds, tree = self.reading(ROW, ["x"] * 1999)
        self.assertEqual(len(deeds), 3999)
        self.assertEqual(deeds, [("step", "x"), ("make", 1)] + [("step", "x"), ("make", 0)] * 1998 + [("done",)])
        self.assertEqual(deeds_of_tree(tree), deeds)

    def test_four_thousand_and_taken(self):
        deeds, tree = self.reading([("S", ("L",))] + ROW, ["x"] * 1999)
        self.assertEqual(len(deeds), 4000)
        self.assertEqual(deeds[-3:], [("make", 1), ("make", 0), ("done",)])
        self.assertEqual(deeds_of_tree(tree), deeds)

    def test_four_thousand_and_not_taken(self):
        self.assertIsNone(self.reading(ROW, ["x"] * 2000))
        self.assertIsNone(self.reading([("S", ("L",))] + ROW, ["x"] * 2000))
        self.assertIsNone(self.reading(ROW, ["x"] * 2500))

    def test_refused_before_four_thousand(self):
        self.assertEqual(self.reading(ROW, ["x"] * 2000 + ["y"]), 2000)
        self.assertEqual(self.reading(ROW, ["x"] * 1999 + ["y"]), 1999)

    def test_at_four_thousand_no_other_deed_is_looked_for(self):
        # By y the last x makes its tree; only then would y be refused.
        (rooms, steps), deeds = table_of(ROW)
        rooms = [room + [(rule, dot, "y") for rule, dot, ahead in room if dot == len((ROW + [("", (1, 1))])[rule][1])]
                 for room in rooms]
        deeds = deeds + [(room, "y", deed) for room, word, deed in deeds if word == "" and deed[0] == "make"]
        self.assertIs(table_stands(ROW, (rooms, steps), deeds), True)
        for many, wanted in ((1, 1), (1999, 1999), (2000, None), (2001, None)):
            self.assertEqual(told_of(lambda: read_with(ROW, (rooms, steps), deeds, ["x"] * many + ["y"])), wanted)

    def test_a_make_without_its_step_as_the_last_deed(self):
        # The make of S would be deed 4000: it finds no step, and the row is refused.
        rules = [("S", ("L", "y", "y", "y"))] + ROW
        (rooms, steps), deeds = table_of(rules)
        row = ["x"] * 1998 + ["y"] * 3
        self.assertIsNone(told_of(lambda: read_with(rules, (rooms, steps), deeds, row)))
        steps = [step for step in steps if step[1] != "S"]
        self.assertIs(table_stands(rules, (rooms, steps), deeds), True)
        self.assertEqual(told_of(lambda: read_with(rules, (rooms, steps), deeds, row)), 2001)

    def test_rows_of_few_words(self):
        for many in (1, 10, 22):
            deeds, tree = self.reading(MAKES, ["x"] * many)
            self.assertEqual(len(deeds), 175 * many + 1)
            self.assertEqual(deeds_of_tree(tree), deeds)
        for many in (23, 40):
            self.assertIsNone(self.reading(MAKES, ["x"] * many))
        self.assertEqual(self.reading(MAKES, ["x"] * 22 + ["z"]), 22)
        self.assertEqual(len(self.reading(MAKES, ["x"] * 22 + ["y"] * 49)[0]), 3851 + 3 * 49)
        self.assertIsNone(self.reading(MAKES, ["x"] * 22 + ["y"] * 50))

    def test_what_is_raised(self):
        for call, error in ((lambda: self.read(ROW, ["x"] * 2000), errors.TooMany),
                            (lambda: self.read(ROW, ["y"]), errors.Refused)):
            with self.assertRaises(errors.WrightError) as caught:
                call()
            self.assertIs(type(caught.exception), error)
            self.assertIsInstance(caught.exception, ValueError)

    def read(self, rules, row):
        return read_with(rules, *table_of(rules), row)


class TableReadingTest(unittest.TestCase):
    """Point 37: what tables that stand read, whoever made them."""

    def test_by_chance(self):
        chance = random.Random(101)
        seen = {"taken": 0, "refused": 0, "stands": 0, "lacks nothing": 0}
        for rules in sound_lists(102, 500):
            trees = PlainTrees(rules)
            names = empty_names(rules)
            pairs = [(name, row[0]) for name, rows in first_rows(rules).items() for row in rows if row]
            plan = plain_rooms(rules)
            for one in (plan, plain_joined(plan)[0]):
                for _ in range(4):
                    table = chance_table(chance, rules, one, plain_deeds(rules, one))
                    if not table_stands(rules, *table):
                        continue
                    full = table_lacks(rules, names, pairs, *table) is None
                    seen["stands"] += 1
                    seen["lacks nothing"] += full
                    for row in chance_rows(chance.random(), 10, 5, ["x", "y", "z", "A"]):
                        told = told_of(lambda: read_with(rules, *table, row))
                        self.assertEqual(told, plain_reading(rules, *table, row))
                        if isinstance(told, tuple):
                            seen["taken"] += 1
                            self.assertIn(told[1], trees.of("A", tuple(row)), (rules, table, row))
                            self.assertEqual(told[0], plain_tree_deeds(told[1]) + [("done",)])
                            self.assertEqual(tree_of(rules, told[0]), told[1])
                        if full:
                            seen["refused"] += not isinstance(told, tuple)
                            self.assertEqual(trees.of("A", tuple(row)), [told[1]] if isinstance(told, tuple) else [])
                            if not isinstance(told, tuple):
                                self.assertEqual(told, longest_beginning(rules, row))
        self.assertGreater(min(seen.values()), 100, seen)


class ReaderTest(unittest.TestCase):
    def test_without_strengths(self):
        reader = Reader(Grammar(SUM))
        self.assertEqual(reader.read(["n", "+", "n"]), (
            [("step", "n"), ("make", 1), ("step", "+"), ("step", "n"), ("make", 0), ("done",)], (0, (N, "+", "n"))))
        self.assertEqual(reader.plan(), rooms_of(Grammar(SUM)))
        self.assertEqual(reader.deeds(), deeds_of(Grammar(SUM), rooms_of(Grammar(SUM))))
        self.assertEqual(reader.aside(), [])
        self.assertIsInstance(reader.plan(), tuple)
        self.assertIsInstance(reader.deeds(), list)
        self.assertIsInstance(reader.aside(), list)

    def test_joined(self):
        grammar = Grammar(LIKE)
        plain = rooms_of(grammar)
        joined = joined_plan(plain)[0]
        self.assertLess(len(joined[0]), len(plain[0]))
        for reader, plan in ((Reader(grammar), plain), (Reader(grammar, False), plain), (Reader(grammar, True), joined),
                             (Reader(grammar, join=True), joined), (Reader(grammar, join=False), plain)):
            self.assertEqual(reader.plan(), plan)
            self.assertEqual(reader.deeds(), deeds_of(grammar, plan))
            self.assertEqual(reader.aside(), [])
            self.assertEqual(reader.read(list("acx"))[1], (0, ("a", (2, ("c",)), "x")))
            for row in ("acy", "bcx"):
                self.assertEqual(told_of(lambda: reader.read(list(row))), 2)

    def test_left(self):
        reader = Reader(Grammar(STRONG, [("left", ("+",)), ("left", ("*",))]))
        one = (2, ("n",))
        self.assertEqual(reader.read(list("n+n+n"))[1], (0, ((0, (one, "+", one)), "+", one)))
        self.assertEqual(reader.read(list("n*n+n"))[1], (0, ((1, (one, "*", one)), "+", one)))
        self.assertEqual(reader.read(list("n+n*n"))[1], (0, (one, "+", (1, (one, "*", one)))))

    def test_right(self):
        reader = Reader(Grammar(STRONG, [("right", ("+", "*"))]))
        one = (2, ("n",))
        self.assertEqual(reader.read(list("n+n*n"))[1], (0, (one, "+", (1, (one, "*", one)))))
        self.assertEqual(reader.read(list("n*n+n"))[1], (1, (one, "*", (0, (one, "+", one)))))

    def test_none(self):
        reader = Reader(Grammar(STRONG, [("none", ("+",)), ("left", ("*",))]))
        one = (2, ("n",))
        self.assertEqual(reader.read(list("n+n*n"))[1], (0, (one, "+", (1, (one, "*", one)))))
        self.assertEqual(told_of(lambda: reader.read(list("n+n+n"))), 3)
        self.assertEqual(told_of(lambda: reader.read(list("n*n+n+n"))), 5)

    def test_settled_and_put_aside(self):
        for ways in itertools.product(("left", "right", "none"), repeat=2):
            for words in ((("+",), ("*",)), (("*",), ("+",))):
                grammar = Grammar(STRONG, list(zip(ways, words)))
                for join in (False, True):
                    reader = Reader(grammar, join)
                    plan = rooms_of(grammar)
                    if join:
                        plan = joined_plan(plan)[0]
                    stays, aside = put_right(grammar, deeds_of(grammar, plan))
                    self.assertEqual((reader.plan(), reader.deeds(), reader.aside()), (plan, stays, aside))
                    self.assertEqual(len(aside) >= 4, True)
                    self.assertIs(table_stands(STRONG, reader.plan(), reader.deeds()), True)
                    for row in (list("n+n*n"), list("n*n+n*n"), list("n+"), list("n*n*n+")):
                        self.assertEqual(told_of(lambda: reader.read(row)), plain_reading(STRONG, plan, stays, row))

    def test_clash(self):
        for strengths in (None, [], [("left", ("+",))], [("left", ("*", "x"))]):
            grammar = Grammar(STRONG, strengths)
            plan = rooms_of(grammar)
            left = clashes_of(put_right(grammar, deeds_of(grammar, plan))[0])
            self.assertTrue(left)
            with self.assertRaises(errors.WrightError) as caught:
                Reader(grammar)
            self.assertIs(type(caught.exception), errors.Clash)
            self.assertEqual(caught.exception.clashes, left)
        with self.assertRaises(errors.Clash) as caught:
            Reader(Grammar([("E", ("E", "+", "E")), ("E", ("n",))]))
        self.assertEqual(caught.exception.clashes, [(4, "+", [("make", 0), ("step", 3)])])

    def test_clashes_that_the_strengths_leave_alone(self):
        rules = STRONG + [("E", ("E", "-", "E"))]
        with self.assertRaises(errors.Clash) as caught:
            Reader(Grammar(rules, [("left", ("+", "*"))]))
        told = caught.exception.clashes
        for room, word, deeds in told:
            self.assertIn("-", [word, rules[deeds[0][1]][1][1]])
        self.assertEqual(told, sorted(told))

    def test_a_clash_by_joining_alone(self):
        grammar = Grammar(APART)
        self.assertEqual(Reader(grammar).read(list("bce"))[1], (3, ("b", (4, ("c",)), "e")))
        with self.assertRaises(errors.Clash) as caught:
            Reader(grammar, True)
        self.assertEqual(caught.exception.clashes, [
            (6, "d", [("make", 4), ("make", 5)]), (6, "e", [("make", 4), ("make", 5)])])

    def test_too_many(self):
        for rules in (long_rules(119), long_rules(144), wide_rules(15, 20)):
            for join in (False, True):
                with self.assertRaises(errors.WrightError) as caught:
                    Reader(Grammar(rules), join)
                self.assertIs(type(caught.exception), errors.TooMany)
        self.assertEqual(len(Reader(Grammar(long_rules(118))).plan()[0]), 120)

    def test_too_many_comes_ahead_of_a_clash(self):
        rules = [("S", ("S", "+", "S")), ("S", ("N0",))] + long_rules(120)
        self.assertRaises(errors.TooMany, Reader, Grammar(rules))

    def test_too_many_deeds(self):
        reader = Reader(Grammar(MAKES))
        self.assertEqual(len(reader.read(["x"] * 22)[0]), 3851)
        self.assertRaises(errors.TooMany, reader.read, ["x"] * 23)
        self.assertEqual(len(reader.read(["x"])[0]), 176)

    def test_asked_again_behind_a_refused_row(self):
        reader = Reader(Grammar(SUM))
        wanted = reader.read(["n", "+", "n"])
        for row in (["n", "+"], ["+"], [], ["n", "n"]):
            self.assertRaises(errors.Refused, reader.read, row)
            self.assertEqual(reader.read(["n", "+", "n"]), wanted)

    def test_each_refusal_tells_its_own_place(self):
        reader = Reader(Grammar(SUM))
        for row, place in (([], 0), (["n", "+"], 2), (["x"], 0), (["n", "n"], 1), (["E"], 0)):
            with self.assertRaises(errors.Refused) as caught:
                reader.read(row)
            self.assertEqual(caught.exception.place, place)
            self.assertIs(type(caught.exception), errors.Refused)


class PromiseTest(unittest.TestCase):
    """Point 3: for a grammar whose tables have no clash just its rows are taken, each with its one tree."""

    def check(self, rules, rows):
        trees = PlainTrees(rules)
        start = rules[0][0]
        many = 0
        for join in (False, True):
            try:
                reader = Reader(Grammar(rules), join)
            except (errors.Clash, errors.TooMany):
                continue
            for row in rows:
                told = told_of(lambda: reader.read(row))
                if isinstance(told, tuple):
                    self.assertEqual(trees.of(start, tuple(row)), [told[1]], (rules, row))
                    self.assertEqual(first_trees(Grammar(rules), row, 2), [told[1]])
                    self.assertEqual(plain_row(told[1]), row)
                    self.assertTrue(plain_stands(rules, told[1], start))
                    many += 1
                else:
                    self.assertEqual(trees.of(start, tuple(row)), [], (rules, row))
                    self.assertEqual(told, longest_beginning(rules, row), (rules, row))
        return many

    def test_all_short_rows(self):
        for rules in (SUM, EMPTY, LIKE, APART, ROW, [("S", ())], [("S", ("(", "S", ")", "S")), ("S", ())]):
            words = sorted({part for head, parts in rules for part in parts} - {head for head, parts in rules}) or ["x"]
            rows = [list(row) for many in range(5) for row in itertools.product(words, repeat=many)]
            self.assertGreater(self.check(rules, rows), 0)

    def test_by_chance(self):
        many = 0
        for rules in sound_lists(103, 400) + sound_lists(104, 150, 12, 4, "ABCDEF", "vwxyz"):
            many += self.check(rules, chance_rows(105, 12, 6, "vwxyz") + chance_rows(106, 12, 3, "xyz"))
        self.assertGreater(many, 200)


class TablesTest(unittest.TestCase):
    """The tables of readers stand, and lack nothing where nothing was put aside."""

    def test_by_chance(self):
        many = 0
        for rules in sound_lists(107, 500):
            grammar = Grammar(rules, [("left", ("x",)), ("right", ("y", "A")), ("none", ("z",))])
            names = empty_names(rules)
            pairs = [(name, row[0]) for name, rows in first_rows(rules).items() for row in rows if row]
            for join in (False, True):
                try:
                    reader = Reader(grammar, join)
                except errors.Clash as clash:
                    self.assertTrue(clash.clashes)
                    continue
                many += bool(reader.aside())
                self.assertIs(plain_table_stands(rules, reader.plan(), reader.deeds()), True)
                lacks = plain_table_lacks(rules, names, pairs, reader.plan(), reader.deeds())
                self.assertEqual(lacks is None, reader.aside() == [])
        self.assertGreater(many, 10)


class FitTest(unittest.TestCase):
    """Point 39: the deeds done and the tree of a reading fit each other."""

    def test_fit(self):
        for rules, strengths, rows in (
                (SUM, None, ("n", "n+n", "n+n+n+n")), (EMPTY, None, ("x", "yx")), (LIKE, None, ("acx", "bcy")),
                (STRONG, [("left", ("+",)), ("right", ("*",))], ("n", "n+n*n*n+n", "n*n*n+n"))):
            for join in (False, True):
                reader = Reader(Grammar(rules, strengths), join)
                for row in rows:
                    deeds, tree = reader.read(list(row))
                    self.assertEqual(deeds, plain_tree_deeds(tree) + [("done",)])
                    self.assertEqual(deeds, deeds_of_tree(tree))
                    self.assertEqual(tree_of(rules, deeds), tree)
                    self.assertEqual("".join(plain_row(tree)), row)


class OwnTest(unittest.TestCase):
    def test_nothing_handed_in_is_changed(self):
        plan, deeds = table_of(SUM)
        handed = (list(SUM), (plan[0], plan[1][::-1]), deeds[::-1], ["n", "+", "n"])
        kept = copy.deepcopy(handed)
        read_with(*handed)
        self.assertEqual(handed, kept)
        grammar = Grammar(SUM)
        row = ["n", "+", "n"]
        Reader(grammar, True).read(row)
        self.assertEqual((grammar.rules, row), (SUM, ["n", "+", "n"]))

    def test_a_grammars_lists_changed_behind(self):
        rules = list(STRONG)
        strengths = [("left", ("+",)), ("left", ("*",))]
        reader = Reader(Grammar(rules, strengths))
        wanted = reader.read(list("n+n*n"))
        rules.clear()
        strengths.reverse()
        self.assertEqual(reader.read(list("n+n*n")), wanted)

    def test_told_lists_are_the_askers_own(self):
        for join in (False, True):
            grammar = Grammar(STRONG, [("left", ("+",)), ("right", ("*",))])
            reader = Reader(grammar, join)
            wanted = copy.deepcopy((reader.plan(), reader.deeds(), reader.aside(), reader.read(list("n+n"))))
            plan = reader.plan()
            reading = reader.read(list("n+n"))
            lists = plan[0] + [plan[0], plan[1], reader.deeds(), reader.aside(), reading[0]]
            self.assertEqual(len({id(one) for one in lists}), len(lists))
            for one in lists:
                one.clear()
            self.assertEqual((reader.plan(), reader.deeds(), reader.aside(), reader.read(list("n+n"))), wanted)

    def test_what_is_told_stays(self):
        reader = Reader(Grammar(SUM))
        told = reader.read(["n", "+", "n"])
        kept = copy.deepcopy(told)
        plan = reader.plan()
        kept_plan = copy.deepcopy(plan)
        reader.read(["n"])[0].clear()
        reader.plan()[0][0].clear()
        self.assertRaises(errors.Refused, reader.read, ["n", "n"])
        self.assertEqual((told, plan), (kept, kept_plan))

    def test_told_clashes_are_the_askers_own(self):
        grammar = Grammar(STRONG)
        with self.assertRaises(errors.Clash) as caught:
            Reader(grammar)
        wanted = copy.deepcopy(caught.exception.clashes)
        for room, word, deeds in caught.exception.clashes:
            deeds.clear()
        with self.assertRaises(errors.Clash) as caught:
            Reader(grammar)
        self.assertEqual(caught.exception.clashes, wanted)

    def test_the_same_each_time(self):
        for row in (list("n+n*n"), list("n")):
            one, other = [Reader(Grammar(STRONG, [("left", ("+",)), ("left", ("*",))]), True) for _ in range(2)]
            self.assertEqual(one.read(row), other.read(row))


class SoonTest(unittest.TestCase):
    def test_the_longest_readings(self):
        reader = Reader(Grammar(MAKES))
        with Soon(self, 3):
            for _ in range(20):
                reader.read(["x"] * 22)
                self.assertRaises(errors.TooMany, reader.read, ["x"] * 40)

    def test_deep_trees(self):
        # Each word but the last opens a tree within the one before.
        rules = [("S", ("x", "S")), ("S", ("y",))]
        with Soon(self, 3):
            deeds, tree = Reader(Grammar(rules)).read(["x"] * 1998 + ["y"])
        self.assertEqual(deeds, [("step", "x")] * 1998 + [("step", "y"), ("make", 1)] + [("make", 0)] * 1998 + [("done",)])
        self.assertEqual(deeds_of_tree(tree), deeds)

    def test_the_longest_grammars(self):
        with Soon(self, 5):
            reader = Reader(Grammar(long_rules(118)), True)
            self.assertEqual(told_of(lambda: reader.read(list("abcde") * 8)), 40)
            reader = Reader(Grammar(wide_rules(13, 23)))
            self.assertEqual(len(reader.read(["x0"] + ["w3"] * 39)[0]), 81)

    def test_many_clashes(self):
        rules = [("S", ("S", f"a{at}", f"b{at}", "S")) for at in range(11)] + [("S", ("x",))]
        with Soon(self, 5):
            for join in (False, True):
                self.assertRaises(errors.Clash, Reader, Grammar(rules), join)


if __name__ == "__main__":
    unittest.main()
