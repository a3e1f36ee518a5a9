"""Point 28: strengths settle clashes of a step and a make."""

import random
import unittest

from tests.helpers import Soon, plain_deeds, plain_rooms, sound_lists
from wright.deeds import clashes_of, deeds_of
from wright.grammars import Grammar
from wright.rooms import rooms_of
from wright.strengths import put_right

RULES = [("E", ("E", "+", "E")), ("E", ("E", "*", "E")), ("E", ("-", "E")), ("E", ("(", "E", ")")), ("E", ("n",)),
         ("E", ())]
PLUS, STAR, MINUS, ROUND, NUMBER, NOTHING = [("make", number) for number in range(6)]
STEP = ("step", 7)


def plain_put_right(rules, strengths, deeds):
    """What stays and what is put aside, by the words of point 28."""
    def strength_of(part):
        return [number for number, (way, words) in enumerate(strengths) if part in words][:1]
    aside = []
    for room, word, deed in deeds:
        others = [other for other in deeds if other[:2] == (room, word) and other[2] != deed]
        if len(others) == 1 and {deed[0], others[0][2][0]} == {"step", "make"}:
            make = deed if deed[0] == "make" else others[0][2]
            parts = [part for part in rules[make[1]][1] if strength_of(part)]
            if parts and strength_of(word):
                one = strength_of(parts[-1])
                other = strength_of(word)
                way = strengths[other[0]][0]
                stays = "make" if one > other or one == other and way == "left" else "step"
                if one == other and way == "none" or deed[0] != stays:
                    aside.append((room, word, deed))
    return [deed for deed in deeds if deed not in aside], aside


class PutRightTest(unittest.TestCase):
    def settled(self, strengths, make, word, rules=RULES):
        """Which of a make and a step by the word stay, and which are put aside, by their first texts."""
        deeds = [(3, word, make), (3, word, STEP)]
        told = put_right(Grammar(rules, strengths), deeds)
        self.assertIsInstance(told, tuple)
        self.assertEqual([type(one) for one in told], [list, list])
        self.assertEqual(sorted(told[0] + told[1]), deeds)
        self.assertEqual(told, plain_put_right(rules, strengths, deeds))
        return [[deed[2][0] for deed in one] for one in told]

    def test_the_stronger_rule(self):
        for way in ("left", "right", "none"):
            for other in ("left", "right", "none"):
                strengths = [(way, ("+",)), (other, ("*",))]
                self.assertEqual(self.settled(strengths, STAR, "+"), [["make"], ["step"]])
                self.assertEqual(self.settled(strengths, PLUS, "*"), [["step"], ["make"]])

    def test_strengths_that_stand_apart(self):
        strengths = [("left", ("+", "x")), ("none", ("y",)), ("right", ("z", "*"))]
        self.assertEqual(self.settled(strengths, STAR, "+"), [["make"], ["step"]])
        self.assertEqual(self.settled(strengths, PLUS, "*"), [["step"], ["make"]])

    def test_like_strengths(self):
        for words in (("+", "*"), ("*", "a", "+")):
            for word in ("+", "*"):
                for make in (PLUS, STAR):
                    self.assertEqual(self.settled([("left", words)], make, word), [["make"], ["step"]])
                    self.assertEqual(self.settled([("right", words)], make, word), [["step"], ["make"]])
                    self.assertEqual(self.settled([("none", words)], make, word), [[], ["make", "step"]])

    def test_the_way_of_the_very_strength(self):
        strengths = [("right", ("+",)), ("left", ("*",)), ("none", ("-",))]
        self.assertEqual(self.settled(strengths, PLUS, "+"), [["step"], ["make"]])
        self.assertEqual(self.settled(strengths, STAR, "*"), [["make"], ["step"]])
        self.assertEqual(self.settled(strengths, MINUS, "-"), [[], ["make", "step"]])

    def test_a_rule_without_a_strength(self):
        for make in (MINUS, ROUND, NUMBER, NOTHING):
            self.assertEqual(self.settled([("left", ("+", "*"))], make, "+"), [["make", "step"], []])

    def test_a_word_without_a_strength(self):
        for strengths in ([("left", ("+",))], [("none", ("x",)), ("right", ("+",))]):
            self.assertEqual(self.settled(strengths, PLUS, "*"), [["make", "step"], []])
            self.assertEqual(self.settled(strengths, PLUS, "n"), [["make", "step"], []])

    def test_no_strengths(self):
        self.assertEqual(self.settled([], PLUS, "+"), [["make", "step"], []])
        self.assertEqual(put_right(Grammar(RULES), [(3, "+", PLUS), (3, "+", STEP)]),
                         ([(3, "+", PLUS), (3, "+", STEP)], []))

    def test_the_last_part_that_stands_in_some_strength(self):
        self.assertEqual(self.settled([("left", ("(",)), ("left", ("+",)), ("left", (")",))], ROUND, "+"),
                         [["make"], ["step"]])
        self.assertEqual(self.settled([("left", (")",)), ("left", ("+",)), ("left", ("(",))], ROUND, "+"),
                         [["step"], ["make"]])
        self.assertEqual(self.settled([("left", ("+",)), ("left", ("(",))], ROUND, "+"), [["make"], ["step"]])
        self.assertEqual(self.settled([("left", ("(",)), ("left", ("+",))], ROUND, "+"), [["step"], ["make"]])

    def test_a_name_as_the_last_part(self):
        self.assertEqual(self.settled([("left", ("+",)), ("left", ("*",)), ("left", ("E",))], PLUS, "*"),
                         [["make"], ["step"]])
        self.assertEqual(self.settled([("left", ("E",)), ("left", ("*",)), ("left", ("+",))], PLUS, "*"),
                         [["step"], ["make"]])
        self.assertEqual(self.settled([("none", ("E", "-"))], MINUS, "-"), [[], ["make", "step"]])

    def test_the_head_counts_for_nothing(self):
        self.assertEqual(self.settled([("left", ("E",)), ("left", ("+",))], NUMBER, "+"), [["make", "step"], []])

    def test_first_of_all_strengths(self):
        # The weakest strength is one all the same.
        self.assertEqual(self.settled([("left", ("+",))], PLUS, "+"), [["make"], ["step"]])
        self.assertEqual(self.settled([("left", ("+",)), ("left", ("-",))], MINUS, "+"), [["make"], ["step"]])

    def test_other_clashes_are_left(self):
        grammar = Grammar(RULES, [("left", ("+",)), ("right", ("*",))])
        for deeds in (
                [(0, "+", PLUS), (0, "+", STAR)],
                [(0, "+", PLUS), (0, "+", STAR), (0, "+", STEP)],
                [(0, "+", STEP), (0, "+", ("step", 8))],
                [(0, "+", PLUS), (0, "+", STEP), (0, "+", ("step", 8))],
                [(0, "", ("done",)), (0, "", PLUS)],
        ):
            self.assertEqual(put_right(grammar, deeds), (deeds, []))
            self.assertEqual(plain_put_right(RULES, grammar.strengths, deeds), (deeds, []))

    def test_deeds_that_clash_nowhere_stay(self):
        grammar = Grammar(RULES, [("none", ("+",))])
        deeds = [(0, "", ("done",)), (0, "+", PLUS), (1, "+", STEP), (2, "*", PLUS), (2, "+", STEP)]
        self.assertEqual(put_right(grammar, deeds), (deeds, []))
        self.assertEqual(put_right(grammar, []), ([], []))

    def test_both_lists_sorted(self):
        grammar = Grammar(RULES, [("none", ("+",)), ("left", ("*",))])
        deeds = [(room, word, deed) for room in (2, 9, 10) for word in ("*", "+", "n") for deed in (PLUS, STEP)]
        wanted = ([(2, "*", STEP), (2, "n", PLUS), (2, "n", STEP), (9, "*", STEP), (9, "n", PLUS), (9, "n", STEP),
                   (10, "*", STEP), (10, "n", PLUS), (10, "n", STEP)],
                  [(2, "*", PLUS), (2, "+", PLUS), (2, "+", STEP), (9, "*", PLUS), (9, "+", PLUS), (9, "+", STEP),
                   (10, "*", PLUS), (10, "+", PLUS), (10, "+", STEP)])
        self.assertEqual(put_right(grammar, deeds), wanted)
        self.assertEqual(put_right(grammar, deeds[::-1]), wanted)

    def test_sums_and_products(self):
        rules = [("E", ("E", "+", "E")), ("E", ("E", "*", "E")), ("E", ("n",))]
        grammar = Grammar(rules, [("left", ("+",)), ("right", ("*",))])
        stays, aside = put_right(grammar, deeds_of(grammar, rooms_of(grammar)))
        self.assertEqual(clashes_of(stays), [])
        self.assertEqual([(word, deed[0], deed[1] if deed[0] == "make" else None) for room, word, deed in aside],
                         [("*", "make", 1), ("+", "step", None), ("*", "make", 0), ("+", "step", None)])

    def test_by_chance(self):
        chance = random.Random(4)
        settled = 0
        for rules in sound_lists(75, 900):
            words = chance.sample(["x", "y", "z", "A", "B", "C", "D", "q"], 7)
            strengths = [(chance.choice(("left", "right", "none")), tuple(words[at:at + 3])) for at in (0, 3, 6)]
            deeds = plain_deeds(rules, plain_rooms(rules))
            told = put_right(Grammar(rules, strengths), deeds)
            self.assertEqual(told, plain_put_right(rules, strengths, deeds), (rules, strengths))
            settled += len(told[1])
        self.assertGreater(settled, 100)


class OwnTest(unittest.TestCase):
    def test_nothing_handed_in_is_changed(self):
        grammar = Grammar(RULES, [("left", ("+",))])
        deeds = [(3, "+", PLUS), (3, "+", STEP), (0, "n", STEP)]
        told = put_right(grammar, deeds)
        self.assertEqual(deeds, [(3, "+", PLUS), (3, "+", STEP), (0, "n", STEP)])
        for one in told:
            one.clear()
        self.assertEqual(put_right(grammar, deeds), ([(0, "n", STEP), (3, "+", PLUS)], [(3, "+", STEP)]))
        self.assertEqual(grammar.strengths, [("left", ("+",))])

    def test_told_lists_are_new_also_where_nothing_is_settled(self):
        deeds = [(0, "+", STEP)]
        told = put_right(Grammar(RULES), deeds)
        told[0].clear()
        told[1].append((9, "x", STEP))
        self.assertEqual(deeds, [(0, "+", STEP)])
        self.assertEqual(put_right(Grammar(RULES), deeds), (deeds, []))


class SoonTest(unittest.TestCase):
    def test_many_clashes(self):
        rules = [("S", ("S", f"a{at}", "S")) for at in range(14)] + [("S", ("x",))]
        grammar = Grammar(rules, [("left", (f"a{at}",)) for at in range(14)])
        deeds = deeds_of(grammar, rooms_of(grammar))
        with Soon(self, 2):
            stays, aside = put_right(grammar, deeds)
        self.assertEqual((len(clashes_of(deeds)), len(aside), clashes_of(stays)), (196, 196, []))


if __name__ == "__main__":
    unittest.main()
