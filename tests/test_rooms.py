"""Point 25: the rooms of a grammar, their numbers and their steps, and too many of them."""

import unittest

from tests.helpers import Soon, long_rules, plain_rooms, sound_lists, wide_rules
from wright import errors
from wright.grammars import Grammar
from wright.places import closed_list, moved_list, part_at
from wright.rooms import rooms_of

SUM = [("E", ("E", "+", "n")), ("E", ("n",))]
# A can be empty.
EMPTY = [("S", ("A", "x")), ("A", ()), ("A", ("y", "A"))]


def is_refused(rules):
    try:
        rooms_of(Grammar(rules))
    except errors.TooMany:
        return True
    return False


class RoomsTest(unittest.TestCase):
    def check(self, rules, rooms, steps):
        self.assertEqual(rooms_of(Grammar(rules)), (rooms, steps))
        self.assertEqual(plain_rooms(rules), (rooms, steps))

    def test_a_tuple_of_two_lists(self):
        told = rooms_of(Grammar(SUM))
        self.assertIsInstance(told, tuple)
        self.assertEqual([len(told), type(told[0]), type(told[1])], [2, list, list])
        self.assertEqual({type(room) for room in told[0]}, {list})
        self.assertEqual({type(one) for one in told[1] + told[0][0]}, {tuple})

    def test_one_rule(self):
        self.check([("S", ("a",))], [[(0, 0, ""), (1, 0, "")], [(1, 1, "")], [(0, 1, "")]],
                   [(0, "S", 1), (0, "a", 2)])

    def test_a_rule_without_parts(self):
        self.check([("S", ())], [[(0, 0, ""), (1, 0, "")], [(1, 1, "")]], [(0, "S", 1)])

    def test_sums(self):
        self.check(SUM, [
            [(0, 0, ""), (0, 0, "+"), (1, 0, ""), (1, 0, "+"), (2, 0, "")],
            [(0, 1, ""), (0, 1, "+"), (2, 1, "")],
            [(1, 1, ""), (1, 1, "+")],
            [(0, 2, ""), (0, 2, "+")],
            [(0, 3, ""), (0, 3, "+")],
        ], [(0, "E", 1), (0, "n", 2), (1, "+", 3), (3, "n", 4)])

    def test_a_name_that_can_be_empty(self):
        self.check(EMPTY, [
            [(0, 0, ""), (1, 0, "x"), (2, 0, "x"), (3, 0, "")],
            [(0, 1, "")],
            [(3, 1, "")],
            [(1, 0, "x"), (2, 0, "x"), (2, 1, "x")],
            [(0, 2, "")],
            [(2, 2, "x")],
        ], [(0, "A", 1), (0, "S", 2), (0, "y", 3), (1, "x", 4), (3, "A", 5), (3, "y", 3)])

    def test_parts_in_the_order_of_texts(self):
        rules = [("S", ("b",)), ("S", ("B",)), ("S", ("a",)), ("S", ("~",)), ("S", ("!",)), ("S", ("ab",)),
                 ("B", ("0",))]
        told = rooms_of(Grammar(rules))
        self.assertEqual(told[1], [(0, "!", 1), (0, "0", 2), (0, "B", 3), (0, "S", 4), (0, "a", 5), (0, "ab", 6),
                                   (0, "b", 7), (0, "~", 8)])
        self.assertEqual(told[0][1:], [[(4, 1, "")], [(6, 1, "")], [(1, 1, "")], [(7, 1, "")], [(2, 1, "")],
                                       [(5, 1, "")], [(0, 1, "")], [(3, 1, "")]])

    def test_like_places_with_unlike_texts_ahead_are_two_rooms(self):
        told = rooms_of(Grammar([("S", ("a", "A", "x")), ("S", ("b", "A", "y")), ("A", ("c",))]))
        self.assertIn([(2, 1, "x")], told[0])
        self.assertIn([(2, 1, "y")], told[0])

    def test_a_room_that_is_there_already(self):
        told = rooms_of(Grammar([("S", ("a", "A")), ("S", ("b", "A")), ("A", ("c",))]))
        self.assertEqual(told[1], [(0, "S", 1), (0, "a", 2), (0, "b", 3), (2, "A", 4), (2, "c", 5), (3, "A", 6),
                                   (3, "c", 5)])

    def test_each_step_is_the_list_moved_on(self):
        for rules in (SUM, EMPTY, long_rules(20), wide_rules(5, 8)):
            grammar = Grammar(rules)
            rooms, steps = rooms_of(grammar)
            self.assertEqual(rooms[0], closed_list(grammar, [(len(rules), 0, "")]))
            self.assertEqual(len(rooms), len({tuple(room) for room in rooms}))
            for room, part, to in steps:
                self.assertEqual(moved_list(grammar, rooms[room], part), rooms[to])
            parts = {(number, part_at(grammar, place)) for number, room in enumerate(rooms) for place in room}
            self.assertEqual([step[:2] for step in steps], sorted(pair for pair in parts if pair[1] is not None))
            self.assertEqual(list(dict.fromkeys(to for room, part, to in steps)), list(range(1, len(rooms))))

    def test_by_chance(self):
        refused = 0
        for rules in sound_lists(71, 500) + sound_lists(72, 150, 14, 5, "ABCDE", "vwxyz"):
            wanted = plain_rooms(rules)
            if wanted is None:
                refused += 1
                self.assertTrue(is_refused(rules), rules)
            else:
                self.assertEqual(rooms_of(Grammar(rules)), wanted, rules)
        self.assertGreater(refused, 3)


class TooManyTest(unittest.TestCase):
    def test_rooms(self):
        for parts in (110, 117, 118):
            self.assertEqual(len(rooms_of(Grammar(long_rules(parts)))[0]), parts + 2)
        for parts in (119, 120, 144):
            self.assertTrue(is_refused(long_rules(parts)), parts)

    def test_steps_of_the_last_room_to_one_that_is_there(self):
        # Behind the chain x is met by R, as behind z, and by a rule of its own: c leads to a room from there.
        chain = long_rules(108)
        chain[-1] = (chain[-1][0], chain[-1][1][:5] + ("L",))
        rules = [("S", ("z", "R")), ("S", ("N0",))] + chain + [("L", ("R",)), ("L", ("x",)), ("R", ("x", "c"))]
        rooms, steps = rooms_of(Grammar(rules))
        self.assertEqual((rooms, steps), plain_rooms(rules))
        self.assertEqual((len(rules), len(rooms), steps[-1][:2]), (23, 117, (116, "c")))
        self.assertLess(steps[-1][2], 20)
        rules[1] = ("S", ("f", "g", "h", "N0"))
        rooms, steps = rooms_of(Grammar(rules))
        self.assertEqual((len(rooms), steps[-1][:2]), (120, (119, "c")))
        rules[1] = ("S", ("f", "g", "h", "i", "N0"))
        self.assertTrue(is_refused(rules))

    def test_places_in_room_0(self):
        self.assertEqual(len(rooms_of(Grammar(wide_rules(13, 23)))[0][0]), 300)
        self.assertTrue(is_refused([("S", ("N",))] + wide_rules(13, 23)))
        self.assertTrue(is_refused(wide_rules(15, 20)))

    def test_places_in_a_later_room(self):
        rooms, steps = rooms_of(Grammar([("S", ("y", "N"))] + wide_rules(13, 23)))
        self.assertEqual(max(len(room) for room in rooms), 300)
        self.assertEqual(len(rooms[0]), 2)
        self.assertTrue(is_refused([("S", ("y", "N"))] + wide_rules(15, 20)))

    def test_what_is_raised(self):
        with self.assertRaises(errors.WrightError) as caught:
            rooms_of(Grammar(long_rules(144)))
        self.assertIs(type(caught.exception), errors.TooMany)
        self.assertIsInstance(caught.exception, ValueError)
        names = ("NoPattern", "NoWord", "NoRow", "NoRules", "Twice", "Endless", "Unmet", "Loop", "Vast", "Clash",
                 "Refused", "NoDeed")
        for name in names:
            self.assertNotIsInstance(caught.exception, getattr(errors, name))

    def test_asked_again_it_is_refused_again(self):
        grammar = Grammar(long_rules(130))
        for _ in range(3):
            self.assertRaises(errors.TooMany, rooms_of, grammar)


class OwnTest(unittest.TestCase):
    def test_told_lists_are_the_askers_own(self):
        grammar = Grammar(SUM)
        wanted = plain_rooms(SUM)
        told = rooms_of(grammar)
        lists = told[0] + [told[0], told[1]]
        self.assertEqual(len({id(one) for one in lists}), len(lists))
        for room in told[0]:
            room.append((9, 9, "more"))
        told[0].pop()
        told[1].clear()
        self.assertEqual(rooms_of(grammar), wanted)
        self.assertEqual(grammar.rules, SUM)

    def test_what_is_told_stays(self):
        grammar = Grammar(SUM)
        told = rooms_of(grammar)
        for room in rooms_of(grammar)[0]:
            room.clear()
        self.assertEqual(told, plain_rooms(SUM))


class SoonTest(unittest.TestCase):
    def test_many_rooms(self):
        with Soon(self, 3):
            for parts in (118, 119, 144):
                is_refused(long_rules(parts))

    def test_many_places(self):
        with Soon(self, 3):
            rooms_of(Grammar(wide_rules(13, 23)))
            is_refused(wide_rules(24, 24))

    def test_the_longest_rules(self):
        names = [f"N{at}" for at in range(12)]
        one_name = [("S", ("S", "S", f"a{at}", f"b{at}", "S", f"c{at}")) for at in range(23)] + [("S", ("x",))]
        many_names = [(name, (names[(at + 1) % 12], "x", names[(at + 5) % 12], f"w{at}", "y", name))
                      for at, name in enumerate(names)] + [(name, (f"v{at}",)) for at, name in enumerate(names)]
        all_empty = [("S", ("A", "x", "A", "A", "A", "y"))] + [("A", (f"w{at}",) * 6) for at in range(22)] + [("A", ())]
        for rules in (one_name, many_names, all_empty):
            with self.subTest(rules[0]), Soon(self, 3):
                is_refused(rules)

    def test_120_rooms_with_many_places(self):
        rules = [("S", ("S", f"a{at}", f"b{at}", "S")) for at in range(11)] + [("S", ("x",))]
        with Soon(self, 3):
            rooms, steps = rooms_of(Grammar(rules))
            self.assertGreater(sum(len(room) for room in rooms), 2000)


if __name__ == "__main__":
    unittest.main()
