"""Points 32 and 33: plans joined by their cores, and the clashes that come by joining alone."""

import copy
import itertools
import random
import unittest

from tests.helpers import (
    PlainTrees, Soon, chance_rows, long_rules, plain_deeds, plain_joined, plain_reading, plain_rooms, sound_lists,
    wide_rules)
from wright.deeds import clashes_of, deeds_of
from wright.grammars import Grammar
from wright.joined import join_clashes, joined_plan
from wright.rooms import rooms_of

SUM = [("E", ("E", "+", "n")), ("E", ("n",))]
# The rooms behind c, by a and by b, have like cores.
LIKE = [("S", ("a", "A", "x")), ("S", ("b", "A", "y")), ("A", ("c",))]
# Each single room is without a clash, the joined one makes A or B by d and by e.
APART = [("S", ("a", "A", "d")), ("S", ("b", "B", "d")), ("S", ("a", "B", "e")), ("S", ("b", "A", "e")),
         ("A", ("c",)), ("B", ("c",))]
# As these, and in a single room A and B clash by f already.
BOTH = APART + [("S", ("a", "A", "f")), ("S", ("a", "B", "f"))]


def plain_join_clashes(rules, plan):
    """The clashes that come by joining alone, by the words of point 33."""
    joined, numbers = plain_joined(plan)
    single = set()
    for room, word, deed in plain_deeds(rules, plan):
        single.add((room, word, ("step", numbers[deed[1]]) if deed[0] == "step" else deed))
    told = []
    for one, other in itertools.permutations(plain_deeds(rules, joined), 2):
        if one[:2] == other[:2] and one[2] < other[2]:
            if not any((room,) + one[1:] in single and (room,) + other[1:] in single
                       for room, number in enumerate(numbers) if number == one[0]):
                told.append(one + other[2:])
    return sorted(told)


def chance_plan(chance, rules, rooms, cores):
    """A plan of so many rooms with at most so many cores, places and steps in any order, some twice."""
    every = [(rule, dot) for rule in range(len(rules)) for dot in range(len(rules[rule][1]) + 1)] + [(len(rules), 1)]
    ends = [(rule, len(rules[rule][1])) for rule in range(len(rules))]
    kernels = [chance.choices(ends, k=2) + chance.choices(every, k=chance.randrange(3)) for _ in range(cores)]
    told = []
    for _ in range(rooms):
        kernel = chance.choice(kernels)
        told.append([pair + (chance.choice("xyz"),) for pair in kernel + chance.choices(kernel, k=2)])
    steps = [(chance.randrange(rooms), chance.choice("Axyz"), chance.randrange(rooms)) for _ in range(2 * rooms)]
    return told, steps


class JoinedTest(unittest.TestCase):
    def check(self, plan, joined, numbers):
        self.assertEqual(joined_plan(plan), (joined, numbers))
        self.assertEqual(plain_joined(plan), (joined, numbers))

    def test_a_tuple_of_a_plan_and_a_list(self):
        told = joined_plan(rooms_of(Grammar(LIKE)))
        self.assertEqual([type(told), len(told), type(told[0]), type(told[1])], [tuple, 2, tuple, list])
        self.assertEqual([type(one) for one in told[0]], [list, list])
        self.assertEqual({type(room) for room in told[0][0]}, {list})
        self.assertEqual({type(one) for one in told[0][1] + told[0][0][0]}, {tuple})

    def test_rooms_with_none_like_stay(self):
        for rules in (SUM, [("S", ())], long_rules(50), wide_rules(5, 8)):
            plan = rooms_of(Grammar(rules))
            self.check(plan, (plan[0], sorted(plan[1])), list(range(len(plan[0]))))

    def test_rooms_with_like_cores_become_one(self):
        plan = rooms_of(Grammar(LIKE))
        self.assertEqual(plan[0][5:7], [[(2, 1, "x")], [(1, 2, "")]])
        self.assertEqual(plan[0][7], [(2, 1, "y")])
        rooms = plan[0][:5] + [[(2, 1, "x"), (2, 1, "y")]] + plan[0][6:7] + plan[0][8:]
        self.check(plan, (rooms, [
            (0, "S", 1), (0, "a", 2), (0, "b", 3), (2, "A", 4), (2, "c", 5), (3, "A", 6), (3, "c", 5), (4, "x", 7),
            (6, "y", 8)]), [0, 1, 2, 3, 4, 5, 6, 5, 7, 8])

    def test_joined_rooms_are_numbered_by_their_first_ones(self):
        one, other, third = [(0, 1, "a")], [(1, 1, "a")], [(2, 1, "a")]
        self.check(([one, other, one, third, other, one], []), ([one, other, third], []), [0, 1, 0, 2, 1, 0])
        self.check(([third, one, third], []), ([third, one], []), [0, 1, 0])

    def test_places_sorted_and_each_once(self):
        plan = ([[(1, 0, "b"), (0, 10, "c")], [(0, 10, "a"), (1, 0, "b"), (0, 10, "a")], [(0, 10, "a"), (1, 0, "")]], [])
        self.check(plan, ([[(0, 10, "a"), (0, 10, "c"), (1, 0, ""), (1, 0, "b")]], []), [0, 0, 0])

    def test_cores_are_the_rules_and_dots_each_once(self):
        one = [(0, 1, "a"), (0, 1, "b"), (2, 1, "a")]
        self.check(([one, [(2, 1, "c"), (0, 1, "a")]], []), ([sorted(one + [(2, 1, "c")])], []), [0, 0])
        # A rule more, a rule less, another dot.
        for other in ([(0, 1, "a")], [(0, 1, "a"), (1, 1, "a"), (2, 1, "a")], [(0, 1, "a"), (2, 2, "a")]):
            self.check(([one, other], []), ([one, other], []), [0, 1])

    def test_steps_with_the_joined_numbers_sorted_and_each_once(self):
        one, other, third = [(0, 1, "a")], [(1, 1, "a")], [(2, 1, "a")]
        plan = ([one, other, one, other, third],
                [(2, "x", 3), (4, "y", 2), (0, "x", 1), (4, "b", 0), (0, "x", 4), (2, "a", 4), (0, "x", 1), (1, "a", 3)])
        self.check(plan, ([one, other, third], [
            (0, "a", 2), (0, "x", 1), (0, "x", 2), (1, "a", 1), (2, "b", 0), (2, "y", 0)]), [0, 1, 0, 1, 2])

    def test_no_rooms_and_empty_rooms(self):
        self.check(([], []), ([], []), [])
        self.check(([[], [(0, 1, "a")], []], [(2, "a", 1)]), ([[], [(0, 1, "a")]], [(0, "a", 1)]), [0, 1, 0])

    def test_more_than_nine_rooms(self):
        plan = ([[(at % 12, 0, "a")] for at in range(24)], [(at, "a", 23 - at) for at in range(24)])
        self.check(plan, ([[(at, 0, "a")] for at in range(12)], [(at, "a", 11 - at) for at in range(12)]),
                   list(range(12)) * 2)

    def test_joined_again_it_stays(self):
        for rules in (LIKE, APART, BOTH):
            once = joined_plan(rooms_of(Grammar(rules)))[0]
            self.check(once, once, list(range(len(once[0]))))

    def test_by_chance(self):
        fewer = 0
        for rules in sound_lists(81, 300):
            plan = plain_rooms(rules)
            if plan is not None:
                told = joined_plan(plan)
                self.assertEqual(told, plain_joined(plan), rules)
                fewer += len(told[0][0]) < len(plan[0])
        self.assertGreater(fewer, 20)

    def test_by_chance_any_plan(self):
        chance = random.Random(82)
        for _ in range(300):
            plan = chance_plan(chance, BOTH, 6, 3)
            self.assertEqual(joined_plan(plan), plain_joined(plan))


class JoinClashesTest(unittest.TestCase):
    def check(self, rules, plan, wanted):
        told = join_clashes(Grammar(rules), plan)
        self.assertEqual(told, wanted)
        self.assertIsInstance(told, list)
        self.assertEqual(plain_join_clashes(rules, plan), wanted)

    def test_none(self):
        self.check(SUM, rooms_of(Grammar(SUM)), [])
        self.check(LIKE, rooms_of(Grammar(LIKE)), [])
        self.check(SUM, ([], []), [])

    def test_rooms_without_a_clash_joined_rooms_with_one(self):
        grammar = Grammar(APART)
        plan = rooms_of(grammar)
        self.assertEqual(clashes_of(deeds_of(grammar, plan)), [])
        joined = joined_plan(plan)[0]
        self.assertEqual(clashes_of(deeds_of(grammar, joined)), [
            (6, "d", [("make", 4), ("make", 5)]), (6, "e", [("make", 4), ("make", 5)])])
        self.check(APART, plan, [(6, "d", ("make", 4), ("make", 5)), (6, "e", ("make", 4), ("make", 5))])

    def test_clashes_of_a_single_room_are_not_told(self):
        grammar = Grammar(BOTH)
        plan = rooms_of(grammar)
        self.assertEqual([clash[1] for clash in clashes_of(deeds_of(grammar, plan))], ["f"])
        self.assertEqual([clash[1] for clash in clashes_of(deeds_of(grammar, joined_plan(plan)[0]))], ["d", "e", "f"])
        self.check(BOTH, plan, [(6, "d", ("make", 4), ("make", 5)), (6, "e", ("make", 4), ("make", 5))])

    def test_what_clashes_in_one_room_and_not_in_another(self):
        # By d both in the second room, and one of them in the first.
        rooms = [[(4, 1, "d"), (5, 1, "e")], [(4, 1, "d"), (5, 1, "d")]]
        self.check(APART, (rooms, []), [])
        self.check(APART, (rooms[:1] + [[(4, 1, "e"), (5, 1, "d")]], []), [
            (0, "d", ("make", 4), ("make", 5)), (0, "e", ("make", 4), ("make", 5))])

    def test_two_by_two_of_three_deeds(self):
        rules = [("S", ("A",)), ("S", ("B",)), ("S", ("C",)), ("A", ("c",)), ("B", ("c",)), ("C", ("c",))]
        rooms = [[(3, 1, "x"), (4, 1, "x"), (5, 1, "y")], [(3, 1, "y"), (4, 1, "x"), (5, 1, "x")]]
        self.check(rules, (rooms, []), [(0, "x", ("make", 3), ("make", 5)), (0, "y", ("make", 3), ("make", 5))])
        rooms = [[(3, 1, "x"), (4, 1, "y"), (5, 1, "z")], [(3, 1, "y"), (4, 1, "x"), (5, 1, "z")],
                 [(3, 1, "y"), (4, 1, "z"), (5, 1, "x")]]
        makes = [("make", number) for number in (3, 4, 5)]
        self.check(rules, (rooms, []), [
            (0, "x", makes[0], makes[1]), (0, "x", makes[0], makes[2]), (0, "x", makes[1], makes[2]),
            (0, "y", makes[0], makes[1]), (0, "z", makes[1], makes[2])])

    def test_steps_are_told_with_the_joined_numbers(self):
        one = [(4, 1, "d")]
        # Rooms 0 and 1 are one; by x they lead to rooms 2 and 3, which are one too: no clash.
        rooms = [one, one, [(5, 1, "e")], [(5, 1, "e")], [(0, 1, "d")]]
        self.check(APART, (rooms, [(0, "x", 2), (1, "x", 3)]), [])
        self.check(APART, (rooms, [(0, "x", 2), (1, "x", 4)]), [(0, "x", ("step", 1), ("step", 2))])
        # Room 0 has both steps itself, one of them with another number than room 1's.
        self.check(APART, (rooms, [(0, "x", 3), (0, "x", 4), (1, "x", 2)]), [])
        # Only room 0 makes by d.
        rooms[1] = [(4, 1, "e")]
        self.check(APART, (rooms, [(0, "x", 2), (1, "x", 3), (1, "d", 3)]), [(0, "d", ("make", 4), ("step", 1))])
        self.check(APART, (rooms, [(0, "d", 2), (1, "d", 3)]), [])
        self.check(APART, (rooms, [(1, "A", 3), (0, "A", 4)]), [])

    def test_the_deeds_of_each_in_their_order(self):
        rules = APART
        rooms = [[(6, 1, ""), (5, 1, "")], [(6, 1, ""), (5, 1, "x")], [(4, 1, "x")], [(4, 1, "y")]]
        self.check(rules, (rooms, [(2, "y", 0), (3, "a", 1), (2, "a", 3)]), [
            (1, "a", ("step", 0), ("step", 1)), (1, "y", ("make", 4), ("step", 0))])
        rooms = [[(6, 1, "")] * 2 + [(5, 1, "x")], [(6, 1, ""), (5, 1, "")]]
        self.check(rules, (rooms, []), [])
        self.check(rules, ([[(5, 1, "x"), (4, 1, "y")], [(5, 1, "y"), (4, 1, "x")]], [(0, "y", 1)]), [
            (0, "x", ("make", 4), ("make", 5)), (0, "y", ("make", 4), ("make", 5)),
            (0, "y", ("make", 5), ("step", 0))])

    def test_sorted_by_rooms_and_words(self):
        rooms = [[(at % 12, 0, "a"), (4, 1, "de"[at // 12]), (5, 1, "ed"[at // 12])] for at in range(24)]
        rules = APART + [("S", (f"w{at}",)) for at in range(8)]
        wanted = [(room, word, ("make", 4), ("make", 5)) for room in range(12) for word in ("d", "e")]
        self.check(rules, (rooms, []), wanted)

    def test_by_chance(self):
        chance = random.Random(83)
        many = 0
        for _ in range(300):
            plan = chance_plan(chance, BOTH, 6, 2)
            told = join_clashes(Grammar(BOTH), plan)
            self.assertEqual(told, plain_join_clashes(BOTH, plan), plan)
            many += len(told)
        self.assertGreater(many, 300)

    def test_by_chance_of_grammars(self):
        for rules in sound_lists(84, 120) + [LIKE, APART, BOTH]:
            plan = plain_rooms(rules)
            if plan is not None and len(plan[0]) < 30:
                self.assertEqual(join_clashes(Grammar(rules), plan), plain_join_clashes(rules, plan), rules)


class SameRowsTest(unittest.TestCase):
    def test_joined_without_a_clash_they_take_the_same_rows(self):
        fewer = 0
        for rules in sound_lists(85, 300) + [LIKE, SUM]:
            grammar = Grammar(rules)
            plan = plain_rooms(rules)
            if plan is None or clashes_of(plain_deeds(rules, plan)) or join_clashes(grammar, plan):
                continue
            joined = joined_plan(plan)[0]
            deeds = deeds_of(grammar, joined)
            self.assertEqual(clashes_of(deeds), [])
            fewer += len(joined[0]) < len(plan[0])
            trees = PlainTrees(rules)
            for row in chance_rows(86, 15, 5, "xyz"):
                told = plain_reading(rules, joined, deeds, row)
                one = plain_reading(rules, plan, plain_deeds(rules, plan), row)
                self.assertEqual(told, one, (rules, row))
                self.assertEqual(isinstance(told, tuple), trees.of(rules[0][0], tuple(row)) != [], (rules, row))
        self.assertGreater(fewer, 10)


class OwnTest(unittest.TestCase):
    def test_nothing_handed_in_is_changed(self):
        grammar = Grammar(BOTH)
        plan = rooms_of(grammar)
        for room in plan[0]:
            room.reverse()
        plan[1].reverse()
        kept = copy.deepcopy(plan)
        joined_plan(plan)
        join_clashes(grammar, plan)
        self.assertEqual(plan, kept)
        self.assertEqual(grammar.rules, BOTH)

    def test_told_lists_are_the_askers_own(self):
        for rules in (SUM, LIKE, BOTH):
            grammar = Grammar(rules)
            plan = rooms_of(grammar)
            kept = copy.deepcopy(plan)
            told = joined_plan(plan)
            lists = told[0][0] + [told[0][0], told[0][1], told[1]]
            handed = plan[0] + [plan[0], plan[1]]
            self.assertEqual(len({id(one) for one in lists + handed}), len(lists) + len(handed))
            for one in lists:
                one.clear()
            self.assertEqual(plan, kept)
            self.assertEqual(joined_plan(plan), plain_joined(plan))
            join_clashes(grammar, plan).append(None)
            self.assertEqual(join_clashes(grammar, plan), plain_join_clashes(rules, plan))

    def test_what_is_told_stays(self):
        plan = rooms_of(Grammar(LIKE))
        told = joined_plan(plan)
        wanted = plain_joined(plan)
        for room in plan[0]:
            room.clear()
        plan[1].clear()
        self.assertEqual(told, wanted)


class SoonTest(unittest.TestCase):
    def test_the_widest_rooms(self):
        one_name = [("S", ("S", f"a{at}", f"b{at}", "S")) for at in range(11)] + [("S", ("x",))]
        for rules in (one_name, wide_rules(13, 23), long_rules(118)):
            grammar = Grammar(rules)
            plan = rooms_of(grammar)
            with Soon(self, 3):
                joined_plan(plan)
                join_clashes(grammar, plan)

    def test_like_rooms(self):
        # 119 rooms with one core, of 300 places each, and clashes in all.
        rules = [("S", (f"A{at}",)) for at in range(12)] + [(f"A{at}", ("c",)) for at in range(12)]
        rooms = [[(12 + at % 12, 1, f"w{(at + number) % 25}") for at in range(300)] for number in range(119)]
        with Soon(self, 10):
            join_clashes(Grammar(rules), (rooms, [(at, "c", at) for at in range(119)]))


if __name__ == "__main__":
    unittest.main()
