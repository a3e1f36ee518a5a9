"""Point 40: the tree whose deeds anybody tells, or None."""

import copy
import random
import unittest

from tests.helpers import PlainTrees, Soon, chance_rows, head_order, plain_stands, plain_tree_deeds, sound_lists
from wright.clash_papers import deeds_of_tree
from wright.deed_trees import tree_of

SUM = [("E", ("E", "+", "E")), ("E", ("n",)), ("E", ())]
N = (1, ("n",))
NUMBER = [("step", "n"), ("make", 1)]
PLUS = ("step", "+")
DONE = ("done",)
# Names and words at each place, and a name within itself.
WIDE = [("S", ("a", "B", "c", "D", "B")), ("B", ("b",)), ("D", ()), ("B", ("B", "D")), ("D", ("a", "a", "S"))]


def plain_tree_of(rules, deeds):
    """The tree by the words of point 40: that tree, among all that the deeds could build, whose deeds they are."""
    if not deeds or deeds[-1] != DONE or DONE in deeds[:-1]:
        return None
    pile = []
    for deed in deeds[:-1]:
        if len(deed) != 2 or deed[0] not in ("step", "make"):
            return None
        if deed[0] == "step":
            pile.append(deed[1])
        elif type(deed[1]) is not int or deed[1] not in range(len(rules)) or len(pile) < len(rules[deed[1]][1]):
            return None
        else:
            cut = len(pile) - len(rules[deed[1]][1])
            pile[cut:] = [(deed[1], tuple(pile[cut:]))]
    if len(pile) == 1 and isinstance(pile[0], tuple) and all(
            isinstance(deed[1], str) for deed in deeds[:-1] if deed[0] == "step"):
        name = rules[pile[0][0]][0]
        return pile[0] if plain_stands(rules, pile[0], name) else None
    return None


class TreeOfTest(unittest.TestCase):
    def check(self, rules, deeds, wanted):
        self.assertEqual(tree_of(rules, deeds), wanted)
        self.assertEqual(plain_tree_of(rules, deeds), wanted)

    def told(self, rules, tree):
        self.check(rules, plain_tree_deeds(tree) + [DONE], tree)

    def none(self, rules, deeds):
        self.check(rules, deeds, None)

    def test_trees_of_each_kind(self):
        self.told(SUM, N)
        self.told(SUM, (2, ()))
        self.told(SUM, (0, (N, "+", N)))
        self.told(SUM, (0, ((2, ()), "+", (2, ()))))
        self.told(SUM, (0, ((0, (N, "+", (2, ()))), "+", N)))
        self.told(SUM, (0, (N, "+", (0, (N, "+", N)))))
        one = (1, ("b",))
        self.told(WIDE, (0, ("a", one, "c", (2, ()), one)))
        self.told(WIDE, (0, ("a", (3, (one, (2, ()))), "c", (4, ("a", "a", (0, ("a", one, "c", (2, ()), one)))), one)))

    def test_a_tree_of_another_name_than_the_start(self):
        for tree in ((2, ()), (1, ("b",)), (3, ((1, ("b",)), (2, ())))):
            self.told(WIDE, tree)

    def test_no_deeds(self):
        self.none(SUM, [])
        self.none(SUM, [DONE])
        self.none([], [])
        self.none([], [DONE])
        self.none([], [("make", 0), DONE])
        self.none([], NUMBER + [DONE])

    def test_done_nowhere(self):
        self.none(SUM, NUMBER)
        self.none(SUM, NUMBER + [PLUS] + NUMBER + [("make", 0)])

    def test_done_twice(self):
        self.none(SUM, NUMBER + [DONE, DONE])
        self.none(SUM, [DONE] + NUMBER + [DONE])
        self.none(SUM, [("step", "n"), DONE, ("make", 1), DONE])

    def test_done_amid(self):
        self.none(SUM, [("step", "n"), DONE, ("make", 1)])
        self.none(SUM, [DONE] + NUMBER)
        self.none(SUM, NUMBER + [DONE, PLUS])
        self.none(SUM, NUMBER + [DONE, ("make", 2)])

    def test_too_few_on_the_pile(self):
        self.none(SUM, [("make", 1), DONE])
        self.none(SUM, [("make", 0), DONE])
        self.none(SUM, NUMBER + [("make", 0), DONE])
        self.none(SUM, [PLUS] + NUMBER + [("make", 0), DONE])
        self.none(SUM, NUMBER + [("make", 1), DONE])
        self.none(SUM, [("step", "n"), ("make", 1), ("make", 1), DONE])

    def test_too_many_on_the_pile(self):
        self.none(SUM, NUMBER + NUMBER + [DONE])
        self.none(SUM, [PLUS] + NUMBER + [DONE])
        self.none(SUM, NUMBER + [PLUS, DONE])
        self.none(SUM, NUMBER + [PLUS] + NUMBER + [DONE])
        self.none(SUM, [("make", 2)] + NUMBER + [DONE])

    def test_a_word_is_no_tree(self):
        self.none(SUM, [("step", "n"), DONE])
        self.none(SUM, [("step", "+"), DONE])

    def test_a_make_of_other_children_than_its_parts(self):
        # Another word, a tree in a word's place, a word in a name's place, a tree of another name, in another order.
        self.none(SUM, [("step", "m"), ("make", 1), DONE])
        self.none(SUM, [("make", 2), ("make", 1), DONE])
        self.none(SUM, NUMBER + [("step", "n")] + NUMBER + [("make", 0), DONE])
        self.none(SUM, NUMBER + NUMBER + NUMBER + [("make", 0), DONE])
        self.none(SUM, [("step", "n"), PLUS] + NUMBER + [("make", 0), DONE])
        self.none(SUM, [PLUS] + NUMBER + NUMBER + [("make", 0), DONE])
        self.none(WIDE, [("make", 2), ("step", "b"), ("make", 1), ("make", 3), DONE])
        self.none(WIDE, [("make", 2), ("make", 2), ("make", 3), DONE])
        good = plain_tree_deeds((0, ("a", (1, ("b",)), "c", (2, ()), (1, ("b",)))))
        for at, deed in enumerate(good):
            self.none(WIDE, good[:at] + good[at + 1:] + [DONE])
            for other in (("step", "a"), ("step", "b"), ("make", 1), ("make", 2), ("make", 4)):
                if other != deed:
                    self.none(WIDE, good[:at] + [other] + good[at + 1:] + [DONE])

    def test_words_left_below_a_tree_of_itself(self):
        self.none([("S", ("a", "S")), ("S", ())], [("step", "a"), ("step", "a"), ("make", 1), ("make", 0), DONE])

    def test_a_make_of_a_number_that_is_no_rules(self):
        for number in (-1, -2, -3, 3, 4, 1000, 10 ** 40):
            self.none(SUM, [("step", "n"), ("make", number), DONE])
            self.none(SUM, [("make", number), DONE])
            self.none(SUM, NUMBER + [("make", number), DONE])
            self.none(SUM, [("make", number)] + NUMBER + [DONE])

    def test_a_make_of_what_is_no_number(self):
        for thing in (True, False, None, "1", "n", "", (), (1,), [1], {}, 1.0, b"1", object()):
            self.none(SUM, [("step", "n"), ("make", thing), DONE])
            self.none(SUM, NUMBER + [("make", thing), DONE])
        self.none([("S", ()), ("T", ())], [("make", True), DONE])
        self.none([("S", ()), ("T", ())], [("make", False), DONE])

    def test_a_step_of_a_name(self):
        self.none(SUM, [("step", "E"), DONE])
        self.none(SUM, NUMBER + [PLUS, ("step", "E"), ("make", 0), DONE])
        self.none(SUM, [("step", "E"), PLUS] + NUMBER + [("make", 0), DONE])
        # Where it goes under in the end, too: no make takes it.
        self.none(WIDE, [("step", "S"), ("make", 2), DONE])

    def test_a_step_of_what_is_no_text(self):
        for thing in (1, True, None, (), ("n",), N, ["n"], {}, b"n", object()):
            self.none(SUM, [("step", thing), ("make", 1), DONE])
            self.none(SUM, [("step", thing), DONE])
            self.none(SUM, [("step", thing)] + NUMBER + [DONE])
            self.none(SUM, NUMBER + [("step", thing), DONE])
        self.none(SUM, [("step", N), PLUS] + NUMBER + [("make", 0), DONE])
        self.none(SUM, [("step", (1, ())), DONE])

    def test_words_that_stand_in_no_rule(self):
        self.none(SUM, [("step", "w"), DONE])
        self.none(SUM, [("step", "w")] + NUMBER + [DONE])

    def test_tuples_of_other_forms(self):
        for deed in (("step",), ("make",), ("go",), ("go", 1), ("", 1), ("",), ("done", 1), ("done", None),
                     ("steps", "n"), ("STEP", "n"), ("n", "step")):
            self.none(SUM, NUMBER[:1] + [deed] + NUMBER[1:] + [DONE])
            self.none(SUM, [deed] + NUMBER + [DONE])
            self.none(SUM, [deed, ("make", 1), DONE])
            self.none(SUM, NUMBER + [deed])
            self.none(SUM, NUMBER + [DONE, deed])
            self.none(SUM, [deed])
        for deed in (("done", "x"), ("step", "n"), ("make", 2)):
            self.none(SUM, NUMBER + [deed])

    def test_words_like_the_deeds_own_texts(self):
        rules = [("step", ("make", "done", "make")), ("make", ("step?",)), ("make", ())]
        made = (2, ())
        self.told(rules, (0, (made, "done", made)))
        self.told(rules, (0, ((1, ("step?",)), "done", made)))
        self.none(rules, [("step", "make"), DONE])

    def test_rules_that_no_grammar_has(self):
        rules = [("S", ("S",)), ("S", ()), ("S", ()), ("T", ("U",)), ("U", ("T",))]
        self.told(rules, (0, ((0, ((2, ()),)),)))
        self.told(rules, (1, ()))
        self.none(rules, [("make", 3), DONE])

    def test_trees_of_grammars_by_chance(self):
        many = 0
        for rules in sound_lists(111, 300):
            trees = PlainTrees(rules)
            for row in chance_rows(112, 20, 4, "xyz"):
                for name in head_order(rules):
                    for tree in trees.of(name, tuple(row))[:5]:
                        self.told(rules, tree)
                        self.assertEqual(tree_of(rules, deeds_of_tree(tree)), tree)
                        many += 1
        self.assertGreater(many, 100)

    def test_deeds_by_chance(self):
        chance = random.Random(113)
        told = [0, 0]
        deeds = [("make", 0), ("make", 1), ("make", 1), ("make", 2), ("step", "n"), ("step", "n"), PLUS]
        for _ in range(6000):
            row = chance.choices(deeds, k=chance.randrange(1, 8)) + [DONE]
            wanted = plain_tree_of(SUM, row)
            self.assertEqual(tree_of(SUM, row), wanted, row)
            told[wanted is None] += 1
            if wanted is not None:
                self.assertEqual(plain_tree_deeds(wanted) + [DONE], row)
        self.assertGreater(min(told), 100)

    def test_changed_deeds_by_chance(self):
        chance = random.Random(114)
        told = [0, 0]
        for rules in sound_lists(115, 300):
            trees = [tree for row in chance_rows(116, 12, 4, "xyz") for tree in PlainTrees(rules).of("A", tuple(row))[:3]]
            for tree in trees:
                for _ in range(5):
                    row = plain_tree_deeds(tree) + [DONE]
                    at = chance.randrange(len(row))
                    row[at:at + chance.randrange(2)] = chance.choices(
                        [("make", chance.randrange(len(rules))), ("step", chance.choice("Axyz")), DONE],
                        k=chance.randrange(2))
                    wanted = plain_tree_of(rules, row)
                    self.assertEqual(tree_of(rules, row), wanted, (rules, row))
                    told[wanted is None] += 1
        self.assertGreater(min(told), 50)


class OwnTest(unittest.TestCase):
    def test_nothing_handed_in_is_changed(self):
        rules = list(SUM)
        for deeds in (NUMBER + [PLUS] + NUMBER + [("make", 0), DONE], NUMBER + [("make", 0), DONE]):
            kept = copy.deepcopy(deeds)
            one = tree_of(rules, deeds)
            self.assertEqual((rules, deeds), (SUM, kept))
            self.assertEqual(tree_of(rules, deeds), one)


class SoonTest(unittest.TestCase):
    def test_deep_and_wide_trees(self):
        rules = [("S", ("x", "S")), ("S", ("S", "x")), ("S", ("y",))]
        with Soon(self, 3):
            for deeds in (
                    [("step", "x")] * 10000 + [("step", "y"), ("make", 2)] + [("make", 0)] * 10000 + [DONE],
                    [("step", "y"), ("make", 2)] + [("step", "x"), ("make", 1)] * 10000 + [DONE]):
                self.assertEqual(deeds_of_tree(tree_of(rules, deeds)), deeds)
                self.assertIsNone(tree_of(rules, deeds[:-1] + [("make", 0), DONE]))
                self.assertIsNone(tree_of(rules, deeds[1:]))


if __name__ == "__main__":
    unittest.main()
