"""Points 26 and 27: the deeds of a plan, and where they clash."""

import copy
import random
import unittest

from tests.helpers import Soon, plain_deeds, plain_rooms, sound_lists, wide_rules
from wright.deeds import clashes_of, deeds_of
from wright.grammars import Grammar
from wright.rooms import rooms_of

SUM = [("E", ("E", "+", "n")), ("E", ("n",))]
TWICE = [("E", ("E", "+", "E")), ("E", ("n",))]
# A and B can be empty.
EMPTY = [("S", ("A", "B", "x")), ("A", ()), ("B", ()), ("A", ("y",))]


def plain_clashes(deeds):
    pairs = sorted({(room, word) for room, word, deed in deeds})
    told = [(room, word, sorted({deed[2] for deed in deeds if deed[:2] == (room, word)})) for room, word in pairs]
    return [clash for clash in told if len(clash[2]) > 1]


def mixed_plan(chance, plan):
    """The rooms and steps of a plan in another order, some left out and some twice."""
    rooms = [chance.choices(room, k=len(room) + 2) for room in chance.choices(plan[0], k=len(plan[0]) + 2)]
    return rooms, chance.choices(plan[1], k=len(plan[1]) + 2)


class DeedsTest(unittest.TestCase):
    def check(self, rules, plan, wanted):
        self.assertEqual(deeds_of(Grammar(rules), plan), wanted)
        self.assertEqual(plain_deeds(rules, plan), wanted)

    def test_of_the_rooms(self):
        self.check(SUM, plain_rooms(SUM), [
            (0, "n", ("step", 2)), (1, "", ("done",)), (1, "+", ("step", 3)), (2, "", ("make", 1)),
            (2, "+", ("make", 1)), (3, "n", ("step", 4)), (4, "", ("make", 0)), (4, "+", ("make", 0))])

    def test_of_rules_without_parts(self):
        self.check(EMPTY, plain_rooms(EMPTY), [
            (0, "x", ("make", 1)), (0, "y", ("step", 3)), (1, "x", ("make", 2)), (2, "", ("done",)),
            (3, "x", ("make", 3)), (4, "x", ("step", 5)), (5, "", ("make", 0))])

    def test_of_no_rooms_and_no_steps(self):
        self.check(SUM, ([], []), [])
        self.check(SUM, ([[], []], []), [])

    def test_steps_by_a_name_tell_none(self):
        self.check(SUM, ([], [(0, "E", 1), (0, "n", 2), (3, "E", 1)]), [(0, "n", ("step", 2))])

    def test_dots_ahead_of_a_part_tell_none(self):
        self.check(SUM, ([[(0, 0, ""), (0, 1, "+"), (0, 2, "n"), (1, 0, "+"), (2, 0, "")]], []), [])

    def test_a_make_by_each_text_ahead(self):
        self.check(SUM, ([[], [(0, 3, "n"), (0, 3, ""), (1, 1, "+"), (0, 3, "+")]], []), [
            (1, "", ("make", 0)), (1, "+", ("make", 0)), (1, "+", ("make", 1)), (1, "n", ("make", 0))])

    def test_done_is_by_no_word_whatever_is_ahead(self):
        self.check(SUM, ([[(2, 1, "")], [(2, 1, "+")], [(2, 0, "")]], []), [(0, "", ("done",)), (1, "", ("done",))])

    def test_each_once_and_sorted(self):
        plan = ([[(1, 1, "+"), (0, 3, "+"), (1, 1, "+"), (2, 1, ""), (2, 1, "+"), (1, 1, "")]],
                [(10, "n", 2), (2, "n", 10), (2, "n", 9), (10, "n", 2), (2, "+", 11)])
        self.check(SUM, plan, [
            (0, "", ("done",)), (0, "", ("make", 1)), (0, "+", ("make", 0)), (0, "+", ("make", 1)),
            (2, "+", ("step", 11)), (2, "n", ("step", 9)), (2, "n", ("step", 10)), (10, "n", ("step", 2))])

    def test_by_chance(self):
        chance = random.Random(3)
        for rules in sound_lists(73, 300):
            plan = plain_rooms(rules)
            self.assertEqual(deeds_of(Grammar(rules), plan), plain_deeds(rules, plan), rules)
            plan = mixed_plan(chance, plan)
            self.assertEqual(deeds_of(Grammar(rules), plan), plain_deeds(rules, plan), (rules, plan))

    def test_nothing_handed_in_is_changed(self):
        grammar = Grammar(TWICE)
        plan = rooms_of(grammar)
        plan[0][2].reverse()
        plan[1].reverse()
        kept = copy.deepcopy(plan)
        told = deeds_of(grammar, plan)
        self.assertEqual(plan, kept)
        told.clear()
        plan[0].reverse()
        plan[0].reverse()
        self.assertEqual(deeds_of(grammar, plan), plain_deeds(TWICE, kept))


class ClashesTest(unittest.TestCase):
    def check(self, deeds, wanted):
        self.assertEqual(clashes_of(deeds), wanted)
        self.assertEqual(plain_clashes(deeds), wanted)

    def test_none(self):
        self.check([], [])
        self.check(plain_deeds(SUM, plain_rooms(SUM)), [])
        self.check([(0, "a", ("step", 1)), (0, "b", ("step", 1)), (1, "a", ("make", 1))], [])

    def test_a_step_and_a_make(self):
        self.check(plain_deeds(TWICE, plain_rooms(TWICE)), [(4, "+", [("make", 0), ("step", 3)])])

    def test_two_makes(self):
        self.check([(2, "", ("make", 3)), (2, "", ("make", 10)), (2, "a", ("make", 3))],
                   [(2, "", [("make", 3), ("make", 10)])])

    def test_deeds_in_their_order(self):
        self.check([(0, "", ("done",)), (0, "", ("make", 2)), (0, "a", ("make", 9)), (0, "a", ("make", 10)),
                    (0, "a", ("step", 4))],
                   [(0, "", [("done",), ("make", 2)]), (0, "a", [("make", 9), ("make", 10), ("step", 4)])])

    def test_in_the_order_of_rooms_and_words(self):
        deeds = [(room, word, deed) for room in (2, 10, 100) for word in ("", "B", "a", "aa", "b")
                 for deed in (("make", 0), ("make", 1))]
        wanted = [(room, word, [("make", 0), ("make", 1)]) for room in (2, 10, 100)
                  for word in ("", "B", "a", "aa", "b")]
        self.check(deeds, wanted)
        self.check(deeds[::-1], wanted)

    def test_one_deed_twice_is_no_clash(self):
        self.check([(0, "a", ("make", 1)), (0, "a", ("make", 1))], [])

    def test_by_chance(self):
        clashes = 0
        for rules in sound_lists(74, 300):
            deeds = plain_deeds(rules, plain_rooms(rules))
            self.assertEqual(clashes_of(deeds), plain_clashes(deeds), rules)
            clashes += len(plain_clashes(deeds))
        self.assertGreater(clashes, 100)

    def test_own(self):
        deeds = plain_deeds(TWICE, plain_rooms(TWICE)) + [(9, "a", ("make", 0)), (9, "a", ("make", 1))]
        kept = list(deeds)
        told = clashes_of(deeds)
        self.assertIsNot(told[0][2], told[1][2])
        told[0][2].clear()
        told.pop()
        self.assertEqual(deeds, kept)
        self.check(deeds, [(4, "+", [("make", 0), ("step", 3)]), (9, "a", [("make", 0), ("make", 1)])])


class SoonTest(unittest.TestCase):
    def test_the_widest_rooms(self):
        rules = [("S", ("S", f"a{at}", "S")) for at in range(15)] + [("S", ("x",))]
        for rules in (rules, wide_rules(13, 23)):
            grammar = Grammar(rules)
            plan = rooms_of(grammar)
            with Soon(self, 3):
                clashes_of(deeds_of(grammar, plan))


if __name__ == "__main__":
    unittest.main()
