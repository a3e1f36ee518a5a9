"""Points 34 to 36: tables told by anybody, whether they stand and what they lack."""

import copy
import random
import unittest

from tests.helpers import (
    Soon, chance_table, empty_names, first_rows, long_rules, plain_deeds, plain_joined, plain_rooms,
    plain_table_lacks, plain_table_stands, sound_lists, wide_rules)
from wright.begins import begins_of, empties_of
from wright.deeds import clashes_of, deeds_of
from wright.grammars import Grammar
from wright.joined import joined_plan
from wright.rooms import rooms_of
from wright.strengths import put_right
from wright.table_checks import table_lacks, table_stands

SUM = [("E", ("E", "+", "n")), ("E", ("n",))]
ROOMS = [
    [(0, 0, ""), (0, 0, "+"), (1, 0, ""), (1, 0, "+"), (2, 0, "")],
    [(0, 1, ""), (0, 1, "+"), (2, 1, "")],
    [(1, 1, ""), (1, 1, "+")],
    [(0, 2, ""), (0, 2, "+")],
    [(0, 3, ""), (0, 3, "+")],
]
STEPS = [(0, "E", 1), (0, "n", 2), (1, "+", 3), (3, "n", 4)]
DEEDS = [(0, "n", ("step", 2)), (1, "", ("done",)), (1, "+", ("step", 3)), (2, "", ("make", 1)),
         (2, "+", ("make", 1)), (3, "n", ("step", 4)), (4, "", ("make", 0)), (4, "+", ("make", 0))]
PAIRS = [("E", "n")]
# A and B can be empty.
EMPTY = [("S", ("A", "B", "x")), ("A", ()), ("B", ()), ("A", ("y",))]
STRONG = [("E", ("E", "+", "E")), ("E", ("E", "*", "E")), ("E", ("n",))]
STRENGTHS = [("left", ("+",)), ("right", ("*",))]


def pairs_of(rules):
    return [(name, row[0]) for name, rows in first_rows(rules).items() for row in rows if row]


class Table:
    """The table of SUM, to be changed."""

    def __init__(self):
        self.rooms = [list(room) for room in ROOMS]
        self.steps = list(STEPS)
        self.deeds = list(DEEDS)

    def without(self, room, *places):
        for place in places:
            self.rooms[room].remove(place)
        return self

    def room(self, room, *places):
        self.rooms[room].extend(places)
        return self

    def step(self, *steps):
        self.steps.extend(steps)
        return self

    def no_step(self, step):
        self.steps.remove(step)
        return self

    def no_deed(self, deed):
        self.deeds.remove(deed)
        return self

    def one_more_deed(self, deed):
        self.deeds.append(deed)
        return self

    def deed(self, *deeds):
        """With these deeds, in the place of those of the same room and word."""
        self.deeds = [one for one in self.deeds if one[:2] not in [deed[:2] for deed in deeds]] + list(deeds)
        return self

    def stands(self):
        told = table_stands(SUM, (self.rooms, self.steps), self.deeds)
        if told is not plain_table_stands(SUM, (self.rooms, self.steps), self.deeds):
            raise AssertionError((told, self.rooms, self.steps, self.deeds))
        return told

    def lacks(self, names=(), pairs=tuple(PAIRS)):
        told = table_lacks(SUM, list(names), list(pairs), (self.rooms, self.steps), self.deeds)
        wanted = plain_table_lacks(SUM, list(names), list(pairs), (self.rooms, self.steps), self.deeds)
        if told != wanted:
            raise AssertionError((told, wanted, self.rooms, self.steps, self.deeds))
        return told


class StandsTest(unittest.TestCase):
    def check(self, first, falls):
        """The table stands as `first` leaves it, and falls when `falls` has changed it too."""
        table = first(Table())
        self.assertIs(table.stands(), True)
        self.assertIs(falls(table).stands(), False)

    def falls(self, falls):
        self.check(lambda table: table, falls)

    def test_the_rooms_own(self):
        self.assertEqual((ROOMS, STEPS), rooms_of(Grammar(SUM)))
        self.assertEqual(DEEDS, deeds_of(Grammar(SUM), (ROOMS, STEPS)))
        for rules in (SUM, EMPTY, [("S", ())], [("S", ("a",))], long_rules(40), wide_rules(5, 8)):
            grammar = Grammar(rules)
            plan = rooms_of(grammar)
            self.assertIs(table_stands(rules, plan, deeds_of(grammar, plan)), True)

    def test_settled_deeds(self):
        grammar = Grammar(STRONG, STRENGTHS)
        for plan in (rooms_of(grammar), joined_plan(rooms_of(grammar))[0]):
            deeds = deeds_of(grammar, plan)
            self.assertIs(table_stands(STRONG, plan, deeds), False)
            self.assertIs(table_stands(STRONG, plan, put_right(grammar, deeds)[0]), True)

    def test_in_another_order(self):
        for seed in range(20):
            chance = random.Random(seed)
            table = Table()
            for one in table.rooms + [table.steps, table.deeds]:
                chance.shuffle(one)
            self.assertIs(table.stands(), True)

    def test_places_twice(self):
        table = Table()
        table.rooms = [room + room[::-1] for room in table.rooms]
        self.assertIs(table.stands(), True)

    def test_less_stands_too(self):
        table = Table()
        while table.deeds:
            table.deeds.pop()
            self.assertIs(table.stands(), True)
        while table.steps:
            table.steps.pop()
            self.assertIs(table.stands(), True)
        table.rooms = [[]]
        self.assertIs(table.stands(), True)

    def test_a_rule_and_a_room(self):
        self.assertIs(table_stands(SUM, ([], []), []), False)
        self.assertIs(table_stands([], ([], []), []), False)
        self.assertIs(table_stands([], ([[]], []), []), False)
        self.assertIs(table_stands([], ([[(0, 0, "")]], []), []), False)
        self.assertIs(table_stands([("S", ())], ([[]], []), []), True)

    def test_two_steps_of_one_room_and_part(self):
        def like_room(table):
            table.rooms.append(list(ROOMS[2]))
            return table
        self.check(like_room, lambda table: table.step((0, "n", 5)))
        # From another room, or by another part to the same room, it is another step.
        table = like_room(Table())
        table.rooms[5].clear()
        self.assertIs(table.step((0, "x", 5), (0, "y", 5), (1, "x", 5)).stands(), True)
        self.assertIs(table.step((1, "x", 5)).stands(), False)

    def test_a_step_told_twice(self):
        for step in STEPS:
            self.falls(lambda table: table.step(step))

    def test_a_step_to_room_0(self):
        for room, part in ((3, "E"), (0, "x"), (2, "n")):
            self.falls(lambda table: table.step((room, part, 0)))
        table = Table()
        table.rooms[0].clear()
        self.assertIs(table.step((3, "E", 0)).stands(), False)

    def test_a_dot_above_0_in_room_0(self):
        for place in ((0, 1, ""), (0, 3, "+"), (1, 1, ""), (2, 1, "")):
            self.falls(lambda table: table.room(0, place))
        self.assertIs(Table().room(0, (0, 0, "n"), (1, 0, "E")).stands(), True)

    def test_the_rule_behind_all_at_its_dot_0_in_another_room(self):
        for room in range(1, 5):
            self.falls(lambda table: table.room(room, (2, 0, "")))

    def test_the_rule_behind_all_need_not_be_in_room_0(self):
        table = Table().without(0, (2, 0, "")).without(1, (2, 1, ""))
        self.assertIs(table.no_deed((1, "", ("done",))).stands(), True)

    def test_the_rule_behind_all_with_a_text_ahead(self):
        self.falls(lambda table: table.room(0, (2, 0, "+")))
        self.falls(lambda table: table.room(1, (2, 1, "n")))
        self.falls(lambda table: table.room(1, (2, 1, "E")))

    def test_a_place_without_the_one_a_dot_back(self):
        self.falls(lambda table: table.without(1, (0, 1, ""), (0, 1, "+")))
        self.falls(lambda table: table.without(3, (0, 2, ""), (0, 2, "+")))
        self.falls(lambda table: table.without(0, (1, 0, ""), (1, 0, "+")))
        self.falls(lambda table: table.without(0, (2, 0, "")))
        # Its own dot, or that of another rule, is not the one back.
        self.falls(lambda table: table.without(1, (0, 1, ""), (0, 1, "+")).room(1, (1, 0, ""), (0, 0, "")))

    def test_whatever_is_ahead_a_dot_back(self):
        table = Table().without(1, (0, 1, ""), (0, 1, "+"))
        self.assertIs(table.room(1, (0, 1, "x")).stands(), True)
        self.assertIs(Table().room(3, (0, 2, "E"), (0, 2, "x")).stands(), True)

    def test_each_step_to_the_room_is_asked(self):
        # A second step to room 4, from rooms without the place a dot back, and from one with it.
        self.check(lambda table: table.no_step((0, "n", 2)).no_deed((0, "n", ("step", 2))),
                   lambda table: table.step((0, "n", 4)))
        for room in (2, 4):
            self.falls(lambda table: table.step((room, "n", 4)))
        table = Table()
        table.rooms.append([(0, 2, "n")])
        self.assertIs(table.step((5, "n", 4)).stands(), True)
        self.assertIs(table.step((5, "E", 4)).stands(), False)

    def test_a_step_by_another_part_than_the_one_before_the_dot(self):
        self.check(lambda table: table.room(1, (1, 0, "")), lambda table: table.room(3, (1, 1, "")))
        self.check(lambda table: table.no_step((0, "E", 1)), lambda table: table.step((0, "+", 1)))

    def test_a_room_that_no_step_leads_to(self):
        table = Table()
        table.rooms.append([(0, 3, "x"), (2, 1, ""), (1, 1, "n"), (0, 1, "")])
        self.assertIs(table.deed((5, "x", ("make", 0)), (5, "", ("done",)), (5, "n", ("make", 1))).stands(), True)

    def test_two_deeds_of_one_room_and_word(self):
        self.check(lambda table: table.room(3, (1, 0, "")).room(4, (1, 1, "")),
                   lambda table: table.one_more_deed((4, "", ("make", 1))))

        def with_step_and_make(table):
            table.rooms.append([(0, 3, "+"), (0, 1, "")])
            return table.step((5, "+", 3)).deed((5, "+", ("make", 0)))
        self.check(with_step_and_make, lambda table: table.one_more_deed((5, "+", ("step", 3))))
        self.assertIs(with_step_and_make(Table()).deed((5, "+", ("step", 3))).stands(), True)

    def test_a_deed_told_twice(self):
        for deed in DEEDS:
            self.falls(lambda table: table.one_more_deed(deed))

    def test_a_step_deed_told_by_no_step(self):
        for deed in ((0, "+", ("step", 3)), (0, "n", ("step", 4)), (3, "n", ("step", 2)), (2, "n", ("step", 2)),
                     (1, "+", ("step", 1)), (0, "x", ("step", 2)), (0, "n", ("step", 0))):
            self.falls(lambda table: table.deed(deed))
        self.falls(lambda table: table.no_step((3, "n", 4)))

    def test_a_step_deed_by_a_head(self):
        self.falls(lambda table: table.deed((0, "E", ("step", 1))))

    def test_a_step_deed_by_no_word(self):
        self.falls(lambda table: table.deed((0, "", ("step", 1))))
        self.falls(lambda table: table.deed((3, "", ("step", 4))))
        # Though a step is told so.
        table = Table().step((0, "", 5))
        table.rooms.append([])
        self.assertIs(table.stands(), True)
        self.assertIs(table.deed((0, "", ("step", 5))).stands(), False)

    def test_a_make_told_by_no_place(self):
        # No such word ahead, no such place in the room, its dot ahead of a part, another rule.
        for deed in ((2, "x", ("make", 1)), (0, "+", ("make", 1)), (3, "+", ("make", 0)), (1, "n", ("make", 0)),
                     (2, "", ("make", 0)), (4, "+", ("make", 1)), (0, "", ("make", 1)), (3, "", ("make", 0))):
            self.falls(lambda table: table.deed(deed))
        self.falls(lambda table: table.without(2, (1, 1, "+")))
        self.check(lambda table: table.room(1, (0, 1, "x")), lambda table: table.deed((1, "x", ("make", 0))))

    def test_a_make_by_any_text_ahead(self):
        for text in ("x", "n", "E"):
            self.assertIs(Table().room(2, (1, 1, text)).deed((2, text, ("make", 1))).stands(), True)

    def test_a_make_of_the_rule_behind_all(self):
        self.falls(lambda table: table.deed((1, "", ("make", 2))))

    def test_a_rule_without_parts(self):
        rules = [("S", ())]
        plan = ([[(0, 0, ""), (1, 0, "")], [(1, 1, "")]], [(0, "S", 1)])
        self.assertIs(table_stands(rules, plan, [(0, "", ("make", 0)), (1, "", ("done",))]), True)
        self.assertIs(table_stands(rules, plan, [(0, "x", ("make", 0)), (1, "", ("done",))]), False)
        self.assertIs(table_stands(rules, plan, [(1, "", ("make", 0))]), False)

    def test_done_told_by_no_place(self):
        for room in (0, 2, 3, 4):
            self.falls(lambda table: table.deed((room, "", ("done",))))
        self.falls(lambda table: table.without(1, (2, 1, "")))

    def test_done_by_a_word(self):
        self.falls(lambda table: table.deed((1, "+", ("done",))))
        self.falls(lambda table: table.deed((1, "n", ("done",))))

    def test_deeds_of_another_form(self):
        for deed in (("done", 1), ("go",), ("go", 1)):
            table = Table().deed((1, "", deed))
            self.assertIs(table_stands(SUM, (table.rooms, table.steps), table.deeds), False)

    def test_numbers_that_are_no_rules(self):
        for number in (-1, -2, -3, 3, 4, 100):
            self.falls(lambda table: table.room(0, (number, 0, "")))
            self.falls(lambda table: table.room(1, (number, 1, "")))
            self.falls(lambda table: table.deed((2, "", ("make", number))))
            self.falls(lambda table: table.deed((4, "+", ("make", number))))

    def test_numbers_that_are_no_dots(self):
        for rule, dots in ((0, (-1, 4, 5, 100)), (1, (-1, 2, 3)), (2, (-1, 2))):
            for dot in dots:
                for room in range(5):
                    self.falls(lambda table: table.room(room, (rule, dot, "")))

    def test_numbers_that_are_no_rooms(self):
        for number in (-1, -4, -5, 5, 6, 100):
            self.falls(lambda table: table.step((number, "n", 4)))
            self.falls(lambda table: table.step((4, "x", number)))
            self.falls(lambda table: table.step((1, "n", number)))
            self.falls(lambda table: table.deed((number, "", ("make", 0))))
            self.falls(lambda table: table.deed((number, "n", ("step", 4))))
            self.falls(lambda table: table.deed((number, "", ("done",))))
            self.falls(lambda table: table.deed((0, "n", ("step", number))))

    def test_truths_are_no_numbers(self):
        self.assertIs(table_stands(SUM, (ROOMS, STEPS), DEEDS[:1] + [(1, "", ("done",))]), True)
        self.assertIs(table_stands(SUM, (ROOMS, STEPS), DEEDS[:1] + [(True, "", ("done",))]), False)
        self.assertIs(table_stands(SUM, (ROOMS, STEPS), [(2, "", ("make", True))]), False)
        self.assertIs(table_stands(SUM, (ROOMS, [(False, "E", 1)]), []), False)
        self.assertIs(table_stands(SUM, (ROOMS, [(0, "E", True)]), []), False)
        self.assertIs(table_stands(SUM, ([[(True, 0, "")]], []), []), False)
        self.assertIs(table_stands(SUM, ([[(1, False, "")]], []), []), False)
        rules = [("S", ("a",))]
        plan = ([[(0, 0, "")], [(0, 1, "")]], [(0, "a", 1)])
        self.assertIs(table_stands(rules, plan, [(0, "a", ("step", 1))]), True)
        self.assertIs(table_stands(rules, plan, [(0, "a", ("step", True))]), False)

    def test_rules_that_no_grammar_has(self):
        # Loops, names without a tree, rules told twice: the table is asked for its own sake.
        rules = [("S", ("S",)), ("S", ("B",)), ("B", ("B", "b")), ("S", ("S",))]
        plan = ([[(4, 0, ""), (0, 0, ""), (3, 0, "")], [(4, 1, ""), (0, 1, ""), (3, 1, "")]], [(0, "S", 1)])
        for deed in (("make", 0), ("make", 3), ("done",)):
            self.assertIs(table_stands(rules, plan, [(1, "", deed)]), True)
        self.assertIs(table_stands(rules, plan, [(1, "", ("make", 1))]), False)

    def test_by_chance(self):
        chance = random.Random(91)
        told = [0, 0]
        for rules in sound_lists(92, 300):
            plan = plain_rooms(rules)
            for one in (plan, plain_joined(plan)[0]):
                deeds = plain_deeds(rules, one)
                self.assertIs(table_stands(rules, one, deeds), clashes_of(deeds) == [], rules)
                for _ in range(8):
                    other, changed = chance_table(chance, rules, one, deeds)
                    stands = table_stands(rules, other, changed)
                    self.assertIs(stands, plain_table_stands(rules, other, changed), (rules, other, changed))
                    told[stands] += 1
        self.assertGreater(min(told), 200)


class LacksTest(unittest.TestCase):
    def test_nothing(self):
        self.assertIsNone(Table().lacks())
        for rules in (SUM, EMPTY, STRONG, [("S", ())], long_rules(40), wide_rules(5, 8)):
            grammar = Grammar(rules)
            names = [name for name, rule in empties_of(grammar)]
            pairs = [begin[:2] for begin in begins_of(grammar)]
            plan = rooms_of(grammar)
            for one in (plan, joined_plan(plan)[0]):
                self.assertIsNone(table_lacks(rules, names, pairs, one, deeds_of(grammar, one)))

    def test_no_room(self):
        self.assertEqual(table_lacks(SUM, [], PAIRS, ([], []), []), ("begin", 0, (2, 0, "")))
        self.assertEqual(table_lacks(SUM, [], PAIRS, ([], STEPS), DEEDS), ("begin", 0, (2, 0, "")))
        self.assertEqual(table_lacks(EMPTY, [], [], ([], []), []), ("begin", 0, (4, 0, "")))

    def test_no_rule(self):
        self.assertEqual(table_lacks([], [], [], ([], []), []), ("begin", 0, (0, 0, "")))
        self.assertEqual(table_lacks([], [], [], ([[]], []), []), ("begin", 0, (0, 0, "")))

    def test_the_first_place_of_all(self):
        self.assertEqual(Table().without(0, (2, 0, "")).lacks(), ("begin", 0, (2, 0, "")))
        self.assertEqual(Table().without(0, (2, 0, "")).room(0, (2, 0, "+")).room(1, (2, 0, "")).lacks(),
                         ("begin", 0, (2, 0, "")))
        table = Table()
        table.rooms[0].clear()
        self.assertEqual(table.lacks(), ("begin", 0, (2, 0, "")))
        # Ahead of everything else that is wanting.
        table.steps.clear()
        table.deeds.clear()
        self.assertEqual(table.lacks(), ("begin", 0, (2, 0, "")))

    def test_a_begin(self):
        for place in ROOMS[0][:4]:
            self.assertEqual(Table().without(0, place).lacks(), ("begin", 0, place))

    def test_the_first_begin_by_rules_then_texts(self):
        rules = [("S", ("T", "R")), ("T", ("t",)), ("R", ("b",)), ("R", ("a",)), ("T", ("u",)), ("T", ("T", "c", "c"))]
        wanted = [(number, 0, text) for number in (1, 4, 5) for text in ("a", "b")]
        # The first place asks for all of these; the others that ask stand behind it.
        for at, place in enumerate(wanted):
            room = [(0, 0, ""), (6, 0, "")] + wanted[:at]
            self.assertEqual(table_lacks(rules, [], pairs_of(rules), ([room], []), []), ("begin", 0, place))
            room = [(0, 0, ""), (6, 0, "")] + wanted[:at] + wanted[at + 1:]
            self.assertEqual(table_lacks(rules, [], pairs_of(rules), ([room], []), []), ("begin", 0, place))
        room = [(0, 0, ""), (6, 0, "")] + wanted
        self.assertEqual(table_lacks(rules, [], pairs_of(rules), ([room], []), []), ("step", 0, (0, 0, "")))

    def test_begins_by_the_told_names_and_pairs(self):
        rules = [("S", ("A", "B", "x")), ("A", ("a",)), ("B", ("b",))]
        place = (0, 0, "")

        def first_begin(names, pairs, *there):
            rooms = [[place, (3, 0, "")] + [(1, 0, text) for text in there]]
            told = table_lacks(rules, names, pairs, (rooms, []), [])
            self.assertEqual(told, plain_table_lacks(rules, names, pairs, (rooms, []), []))
            return told[2][2] if told[0] == "begin" else told

        wanting = ("step", 0, place)
        self.assertEqual(first_begin([], []), wanting)
        self.assertEqual(first_begin([], [("A", "a")]), wanting)
        self.assertEqual(first_begin([], [("B", "b")]), "b")
        self.assertEqual(first_begin([], [("B", "b"), ("B", "a"), ("B", "c")]), "a")
        self.assertEqual(first_begin([], [("B", "b"), ("B", "a")], "a"), "b")
        self.assertEqual(first_begin([], [("B", "b"), ("B", "a")], "a", "b"), wanting)
        self.assertEqual(first_begin(["A"], [("B", "b")]), "b")
        self.assertEqual(first_begin(["B"], []), "x")
        self.assertEqual(first_begin(["B"], [("B", "y")]), "x")
        self.assertEqual(first_begin(["B"], [("B", "y")], "x"), "y")
        self.assertEqual(first_begin(["B"], [("B", "y")], "x", "y"), wanting)
        # A name as a word, a word as a name: as they are told.
        self.assertEqual(first_begin([], [("B", "A")]), "A")
        self.assertEqual(first_begin(["B"], [("x", "w")]), "x")
        self.assertEqual(first_begin(["B", "x"], []), "")
        self.assertEqual(first_begin(["B", "x"], [], ""), "x")
        self.assertEqual(first_begin(["B", "x"], [], "", "x"), wanting)
        self.assertEqual(first_begin(["x"], [("B", "b")], "b"), wanting)

    def test_a_begin_by_the_text_ahead(self):
        # Nothing behind the name: each place asks for its own text.
        rules = [("S", ("a", "B")), ("B", ("b",))]
        rooms = [[(2, 0, "")], [(0, 1, "x"), (0, 1, "y"), (1, 0, "x")]]
        rooms[0] += [(0, 0, "")]
        steps = [(0, "S", 2), (0, "a", 3), (1, "B", 4), (1, "b", 5)]
        rooms += [[(2, 1, "")], [(0, 1, ""), (1, 0, "")], [(0, 2, ""), (0, 2, "x"), (0, 2, "y")],
                  [(1, 1, ""), (1, 1, "x"), (1, 1, "y")]]
        deeds = [(0, "a", ("step", 3))]
        self.assertEqual(table_lacks(rules, [], [], (rooms, steps), deeds), ("begin", 1, (1, 0, "y")))
        rooms[1].remove((1, 0, "x"))
        self.assertEqual(table_lacks(rules, [], [], (rooms, steps), deeds), ("begin", 1, (1, 0, "x")))

    def test_begins_of_each_room_are_its_own(self):
        # What room 0 has is not there for room 1, though the place is a like one.
        rules = [("S", ("S", "S")), ("S", ())]
        full = [(0, 0, ""), (1, 0, "")]
        rooms = [[(2, 0, "")] + full, [(2, 1, ""), (0, 1, "")] + full, [(0, 2, ""), (0, 1, "")] + full]
        steps = [(0, "S", 1), (1, "S", 2), (2, "S", 2)]
        deeds = [(room, "", ("make", 1)) for room in range(3)] + [(1, "", ("done",)), (2, "", ("make", 0))]
        self.assertIsNone(table_lacks(rules, ["S"], [], (rooms, steps), deeds))
        for room in (1, 2):
            for place in full:
                less = copy.deepcopy(rooms)
                less[room].remove(place)
                self.assertEqual(table_lacks(rules, ["S"], [], (less, steps), deeds), ("begin", room, place))

    def test_a_step(self):
        for step, room, place in ((STEPS[0], 0, (0, 0, "")), (STEPS[1], 0, (1, 0, "")), (STEPS[2], 1, (0, 1, "")),
                                  (STEPS[3], 3, (0, 2, ""))):
            table = Table()
            table.steps.remove(step)
            self.assertEqual(table.lacks(), ("step", room, place))

    def test_a_step_to_a_room_without_the_place_one_on(self):
        self.assertEqual(Table().without(1, (0, 1, "+")).lacks(), ("step", 0, (0, 0, "+")))
        self.assertEqual(Table().without(2, (1, 1, "+")).lacks(), ("step", 0, (1, 0, "+")))
        self.assertEqual(Table().without(4, (0, 3, "")).lacks(), ("step", 3, (0, 2, "")))
        self.assertEqual(Table().without(1, (2, 1, "")).lacks(), ("step", 0, (2, 0, "")))
        # With its own text ahead, and its own dot.
        self.assertEqual(Table().without(4, (0, 3, "+")).room(4, (0, 3, "x")).lacks(), ("step", 3, (0, 2, "+")))
        self.assertEqual(Table().without(4, (0, 3, "+")).room(4, (0, 2, "+")).lacks(), ("step", 3, (0, 2, "+")))

    def test_a_step_by_this_part_from_this_room(self):
        table = Table().step((3, "+", 4), (1, "n", 4), (4, "n", 4))
        table.steps.remove((3, "n", 4))
        self.assertEqual(table.lacks(), ("step", 3, (0, 2, "")))

    def test_several_steps_by_one_part(self):
        # Any one of them with the place one on will do.
        for steps in ([(3, "n", 2), (3, "n", 4)], [(3, "n", 4), (3, "n", 2)], [(3, "n", 4), (3, "n", 4)]):
            table = Table()
            table.steps.remove((3, "n", 4))
            self.assertIsNone(table.step(*steps).lacks())
        table = Table()
        table.rooms.append([(0, 3, "+")])
        table.rooms[4].remove((0, 3, "+"))
        table.step((3, "n", 5))
        self.assertEqual(table.lacks(), ("deed", 5, (0, 3, "+")))
        self.assertIsNone(table.deed((5, "+", ("make", 0))).lacks())

    def test_a_deed_of_a_step(self):
        for deed, room, place in ((DEEDS[0], 0, (1, 0, "")), (DEEDS[2], 1, (0, 1, "")), (DEEDS[5], 3, (0, 2, ""))):
            table = Table()
            table.deeds.remove(deed)
            self.assertEqual(table.lacks(), ("deed", room, place))
            # Another deed by the word is none, and a step by another word or from another room neither.
            table.deeds += [(room, deed[1], ("make", 0)), (room, "x", ("step", 1)), (2, deed[1], ("step", 1))]
            self.assertEqual(table.lacks(), ("deed", room, place))
            self.assertIsNone(table.deed((room, deed[1], ("step", 0))).lacks())

    def test_a_deed_of_a_make(self):
        for deed, room, place in ((DEEDS[3], 2, (1, 1, "")), (DEEDS[4], 2, (1, 1, "+")), (DEEDS[6], 4, (0, 3, "")),
                                  (DEEDS[7], 4, (0, 3, "+"))):
            table = Table()
            table.deeds.remove(deed)
            self.assertEqual(table.lacks(), ("deed", room, place))
            table.deeds += [(room, deed[1], ("make", 1 - deed[2][1])), (room, deed[1], ("step", 1)),
                            (room, "n", deed[2]), (3, deed[1], deed[2]), (room, deed[1], ("done",))]
            self.assertEqual(table.lacks(), ("deed", room, place))
            table.deeds.append(deed)
            self.assertIsNone(table.lacks())

    def test_a_deed_of_a_text_ahead_that_no_deed_has(self):
        self.assertEqual(Table().room(4, (0, 3, "x")).lacks(), ("deed", 4, (0, 3, "x")))

    def test_done(self):
        table = Table()
        table.deeds.remove((1, "", ("done",)))
        self.assertEqual(table.lacks(), ("deed", 1, (2, 1, "")))
        table.deeds += [(1, "+", ("done",)), (0, "", ("done",)), (1, "", ("make", 2))]
        self.assertEqual(table.lacks(), ("deed", 1, (2, 1, "")))
        # By "" whatever is ahead.
        table.deeds.append((1, "", ("done",)))
        self.assertIsNone(table.room(1, (2, 1, "x")).room(0, (2, 0, "x"), (0, 0, "x"), (1, 0, "x")).room(1, (0, 1, "x"))
                          .room(2, (1, 1, "x")).room(3, (0, 2, "x")).room(4, (0, 3, "x"))
                          .deed((2, "x", ("make", 1)), (4, "x", ("make", 0))).lacks())

    def test_the_first_by_rooms_then_places(self):
        table = Table()
        table.deeds.clear()
        self.assertEqual(table.lacks(), ("deed", 0, (1, 0, "")))
        table.rooms[0].reverse()
        self.assertEqual(table.lacks(), ("deed", 0, (1, 0, "+")))
        table.deeds = DEEDS[1:]
        table.rooms[0].append(table.rooms[0].pop(0))
        self.assertEqual(table.lacks(), ("deed", 0, (1, 0, "+")))
        table.deeds = DEEDS[:1]
        self.assertEqual(table.lacks(), ("deed", 1, (0, 1, "")))
        table.rooms[1].reverse()
        self.assertEqual(table.lacks(), ("deed", 1, (2, 1, "")))
        table.rooms[2].clear()
        self.assertEqual(table.lacks(), ("step", 0, (1, 0, "+")))

    def test_of_one_place_the_begin_then_the_step_then_the_deed(self):
        rooms = [[(0, 0, ""), (2, 0, "")]]
        self.assertEqual(table_lacks(SUM, [], PAIRS, (rooms, []), []), ("begin", 0, (0, 0, "+")))
        self.assertEqual(table_lacks(SUM, [], PAIRS, ([[(1, 0, ""), (2, 0, "")]], []), []), ("step", 0, (1, 0, "")))
        plan = ([[(1, 0, ""), (2, 0, "")], [(1, 1, "")]], [(0, "n", 1)])
        self.assertEqual(table_lacks(SUM, [], PAIRS, plan, []), ("deed", 0, (1, 0, "")))

    def test_places_in_any_order_and_twice(self):
        for seed in range(20):
            chance = random.Random(seed)
            table = Table()
            table.rooms = [chance.sample(room * 2, 2 * len(room)) for room in table.rooms]
            chance.shuffle(table.steps)
            chance.shuffle(table.deeds)
            self.assertIsNone(table.lacks())

    def test_names_that_can_be_empty(self):
        plan = rooms_of(Grammar(EMPTY))
        deeds = deeds_of(Grammar(EMPTY), plan)
        pairs = pairs_of(EMPTY)
        self.assertIsNone(table_lacks(EMPTY, ["A", "B"], pairs, plan, deeds))
        self.assertIsNone(table_lacks(EMPTY, ["B"], pairs, plan, deeds))
        self.assertEqual(plan[0][0][0], (0, 0, ""))
        rooms = [list(room) for room in plan[0]]
        rooms[0].remove((1, 0, "x"))
        # By names without B nothing is asked behind it.
        self.assertEqual(table_lacks(EMPTY, ["A", "B"], pairs, (rooms, plan[1]), deeds), ("begin", 0, (1, 0, "x")))
        self.assertIsNone(table_lacks(EMPTY, ["A"], pairs, (rooms, plan[1]), deeds))

    def test_numbers_that_are_none_don_t_break_it(self):
        table = Table().room(1, (3, 0, ""), (-1, 0, ""), (0, 4, ""), (0, -1, "")).step((1, "+", 9), (1, "+", -1))
        self.assertIsNone(table_lacks(SUM, [], PAIRS, (table.rooms, table.steps), DEEDS + [(9, "", ("done",))]))

    def test_by_chance(self):
        chance = random.Random(93)
        told = {}
        for rules in sound_lists(94, 300):
            plan = plain_rooms(rules)
            names = empty_names(rules)
            pairs = pairs_of(rules)
            for one in (plan, plain_joined(plan)[0]):
                deeds = plain_deeds(rules, one)
                self.assertIsNone(table_lacks(rules, names, pairs, one, deeds), rules)
                for _ in range(8):
                    (rooms, steps), changed = chance_table(chance, rules, one, deeds)
                    if not all(0 <= rule < len(rules) + 1 and 0 <= dot <= len((rules + [("", "S")])[rule][1])
                               for room in rooms for rule, dot, ahead in room):
                        continue
                    if not all(0 <= room < len(rooms) and 0 <= to < len(rooms) for room, part, to in steps):
                        continue
                    some = [name for name in names + ["x"] if chance.randrange(4)]
                    few = [pair for pair in pairs + [("x", "w"), ("A", "B")] if chance.randrange(8)]
                    lacks = table_lacks(rules, some, few, (rooms, steps), changed)
                    self.assertEqual(lacks, plain_table_lacks(rules, some, few, (rooms, steps), changed))
                    told[lacks and lacks[0]] = told.get(lacks and lacks[0], 0) + 1
        self.assertEqual(set(told), {None, "begin", "step", "deed"})
        self.assertGreater(min(told.values()), 50)


class OwnTest(unittest.TestCase):
    def test_nothing_handed_in_is_changed(self):
        plan = ([room[::-1] for room in ROOMS], STEPS[::-1])
        handed = (list(SUM), ["x"], list(PAIRS), plan, DEEDS[::-1])
        kept = copy.deepcopy(handed)
        table_stands(SUM, plan, handed[4])
        table_lacks(*handed)
        self.assertEqual(handed, kept)


class SoonTest(unittest.TestCase):
    def test_the_widest_rooms(self):
        one_name = [("S", ("S", f"a{at}", f"b{at}", "S")) for at in range(11)] + [("S", ("x",))]
        for rules in (one_name, wide_rules(13, 23), long_rules(118)):
            grammar = Grammar(rules)
            plan = rooms_of(grammar)
            deeds = put_right(Grammar(rules, [("left", tuple(f"a{at}" for at in range(11)))]), deeds_of(grammar, plan))[0]
            with Soon(self, 3):
                self.assertIs(table_stands(rules, plan, deeds), True)
                table_lacks(rules, [], pairs_of(rules), plan, deeds)

    def test_tables_of_anybody(self):
        # 120 rooms, each with all places of the longest rules by two texts, and nothing lacking.
        rules = [("S", ("S",) * 6)] * 23 + [("S", ("x",))]
        room = [(rule, dot, text) for rule in range(24) for dot in range(len(rules[rule][1]) + 1) for text in ("", "x")]
        rooms = [room + [(24, 0, ""), (24, 1, "")]] * 120
        steps = [(number, part, 1) for number in range(120) for part in ("S", "x")]
        deeds = [(number, text, deed) for number in range(120) for text in ("", "x")
                 for deed in [("make", rule) for rule in range(24)] + [("step", 1), ("done",)]]
        with Soon(self, 5):
            self.assertIsNone(table_lacks(rules, [], [("S", "x")], (rooms, steps), deeds))
            self.assertIs(table_stands(rules, (rooms, steps), deeds), False)


if __name__ == "__main__":
    unittest.main()
