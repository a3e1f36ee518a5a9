"""Points 11 and 12: grammars and their refusals."""

import random
import unittest

from tests.helpers import Soon, chance_rule_lists, plain_fault, steps_are_a_loop
from wright.errors import Endless, Loop, NoRules, Twice, Unmet, Vast, WrightError
from wright.grammars import Grammar

SUM = [("E", ("E", "+", "E")), ("E", ("E", "*", "E")), ("E", ("n",)), ("E", ("(", "E", ")"))]
STRENGTHS = [("left", ("+", "-")), ("right", ("*",)), ("none", ("<",))]

TWICE = [("left", ("+",)), ("right", ("+",))]
ENDLESS = [("Q", ("Q", "q"))]
UNMET = [("U", ("u",))]
LOOP = [("S", ("S",))]
SHORT = [("S", ("s",))]


def chain(many, last):
    """S0, .., one name below the other, each with one rule: `many` rules in all, the last one's parts `last`."""
    return [(f"S{at}", (f"S{at + 1}",)) for at in range(many - 1)] + [(f"S{many - 1}", last)]


def wide(more, leaf):
    """Rules by which S has a tree of 57 + `more` rules, and no other: D has the parts `leaf`, S and the rest names."""
    return [("S", ("A",) * 5 + ("C",)), ("A", ("B",) * 2), ("B", ("D",) * 4), ("C", ("D",) * more), ("D", leaf)]


class RefusingTest(unittest.TestCase):
    def refused(self, kind, value, rules, strengths=None):
        with self.assertRaises(WrightError) as caught:
            Grammar(rules, strengths)
        self.assertIs(caught.exception.__class__, kind)
        if value is not None:
            told = {Twice: "word", Endless: "names", Unmet: "names", Vast: "names"}[kind]
            self.assertEqual(getattr(caught.exception, told), value)
        return caught.exception

    def loop(self, rules):
        steps = self.refused(Loop, None, rules).steps
        self.assertIsInstance(steps, list)
        self.assertTrue(all(isinstance(step, tuple) for step in steps))
        self.assertTrue(steps_are_a_loop(rules, steps), steps)
        return steps


class GrammarTest(unittest.TestCase):
    def test_rules_strengths_and_start(self):
        grammar = Grammar(SUM, STRENGTHS)
        self.assertEqual(grammar.rules, SUM)
        self.assertEqual(grammar.strengths, STRENGTHS)
        self.assertEqual(grammar.start(), "E")

    def test_the_start_is_the_head_of_the_first_rule(self):
        self.assertEqual(Grammar([("z", ("a",)), ("a", ("b",))]).start(), "z")

    def test_no_strengths(self):
        for grammar in (Grammar(SUM), Grammar(SUM, None), Grammar(SUM, []), Grammar(SUM, strengths=None)):
            self.assertEqual(grammar.strengths, [])

    def test_words_of_strengths_need_not_stand_in_the_rules(self):
        self.assertEqual(Grammar([("S", ())], STRENGTHS).strengths, STRENGTHS)
        self.assertEqual(Grammar(SUM, [("none", ("E", "nowhere"))]).strengths, [("none", ("E", "nowhere"))])

    def test_what_was_handed_in_may_be_changed_behind(self):
        rules = list(SUM)
        strengths = list(STRENGTHS)
        grammar = Grammar(rules, strengths)
        self.assertEqual((rules, strengths), (SUM, STRENGTHS))
        rules.clear()
        strengths.append(("left", ("+",)))
        self.assertEqual(grammar.rules, SUM)
        self.assertEqual(grammar.strengths, STRENGTHS)
        self.assertEqual(grammar.start(), "E")

    def test_two_grammars_without_strengths_share_nothing(self):
        self.assertIsNot(Grammar(SUM).strengths, Grammar(SUM).strengths)

    def test_one_rule_without_parts(self):
        self.assertEqual(Grammar([("S", ())]).rules, [("S", ())])

    def test_like_rules(self):
        self.assertEqual(len(Grammar([("S", ("a",)), ("S", ("a",))]).rules), 2)


class NoRulesAndTwiceTest(RefusingTest):
    def test_no_rules(self):
        self.refused(NoRules, None, [])
        self.refused(NoRules, None, [], [])

    def test_twice_in_one_strength_and_in_two(self):
        self.refused(Twice, "b", SHORT, [("left", ("a", "b", "b"))])
        self.refused(Twice, "a", SHORT, [("left", ("a",)), ("none", ("b", "a"))])
        self.refused(Twice, "a", SHORT, [("left", ("a",)), ("left", ("a",))])

    def test_the_first_that_stands_a_second_time(self):
        self.refused(Twice, "b", SHORT, [("left", ("a", "b", "c")), ("right", ("d", "b", "a")), ("left", ("d",))])

    def test_like_ways_are_not_twice(self):
        self.assertEqual(len(Grammar(SHORT, [("left", ("a",)), ("left", ("b",))]).strengths), 2)


class EndlessAndUnmetTest(RefusingTest):
    def test_endless(self):
        self.refused(Endless, ["S"], [("S", ("S", "a"))])
        self.refused(Endless, ["A", "B"], [("S", ("a",)), ("S", ("A",)), ("A", ("B",)), ("B", ("b", "A"))])

    def test_a_name_that_needs_an_endless_one_is_endless(self):
        self.refused(Endless, ["S", "A"], [("S", ("a", "A")), ("A", ("A", "a"))])

    def test_endless_names_in_the_order_of_heads(self):
        rules = [("S", ("C", "B", "A")), ("B", ("B",)), ("A", ("a",)), ("C", ("C", "C")), ("B", ("C",))]
        self.refused(Endless, ["S", "B", "C"], rules)

    def test_a_rule_with_a_tree_is_enough(self):
        self.assertEqual(len(Grammar([("S", ("S", "a")), ("S", ())]).rules), 2)
        self.assertEqual(len(Grammar([("S", ("A", "a")), ("A", ("S", "b")), ("A", ("b",))]).rules), 3)

    def test_unmet(self):
        self.refused(Unmet, ["A"], [("S", ("a",)), ("A", ("a",))])

    def test_unmet_names_in_the_order_of_heads(self):
        rules = [("S", ("M",)), ("C", ("B",)), ("B", ("b", "S")), ("M", ("m",)), ("A", ("C",)), ("B", ("C", "c"))]
        self.refused(Unmet, ["C", "B", "A"], rules)

    def test_unmet_though_met_by_one_another(self):
        self.refused(Unmet, ["A", "B"], [("S", ()), ("A", ("B", "a")), ("B", ("A", "b")), ("B", ())])

    def test_met_through_many_names_whatever_their_order(self):
        rules = [("S", ("A",)), ("C", ("c",)), ("B", ("C",)), ("A", ("a", "B"))]
        self.assertEqual(Grammar(rules).rules, rules)

    def test_the_start_itself_is_met(self):
        self.assertEqual(Grammar(SHORT).rules, SHORT)


class LoopTest(RefusingTest):
    def test_of_one_step(self):
        self.assertEqual(self.loop([("S", ("S",)), ("S", ("a",))]), [(0, 0)])

    def test_of_one_step_further_on(self):
        self.assertEqual(self.loop([("S", ("a", "T")), ("T", ("t",)), ("T", ("T",))]), [(2, 0)])

    def test_of_several_steps(self):
        rules = [("S", ("x",)), ("S", ("A",)), ("A", ("B",)), ("B", ("C",)), ("C", ("A",)), ("C", ("c",))]
        self.assertEqual(sorted(self.loop(rules)), [(2, 0), (3, 0), (4, 0)])

    def test_through_parts_that_can_be_empty_ahead_and_behind(self):
        self.assertEqual(self.loop([("S", ("E", "S")), ("S", ("a",)), ("E", ())]), [(0, 1)])
        self.assertEqual(self.loop([("S", ("S", "E")), ("S", ("a",)), ("E", ())]), [(0, 0)])
        self.assertEqual(self.loop([("S", ("E", "S", "E", "F")), ("S", ("a",)), ("E", ()), ("F", ("E",))]), [(0, 1)])

    def test_of_several_steps_through_parts_that_can_be_empty(self):
        rules = [("S", ("E", "A")), ("A", ("S", "F")), ("A", ("a",)), ("E", ()), ("E", ("e",)), ("F", ("E", "E"))]
        self.assertEqual(sorted(self.loop(rules)), [(0, 1), (1, 0)])

    def test_of_a_name_that_can_be_empty_itself(self):
        self.loop([("S", ("S", "S")), ("S", ())])
        self.loop([("S", ("a", "A")), ("A", ("B", "A", "B")), ("A", ()), ("B", ())])

    def test_no_loop_beside_words_and_beside_what_is_never_empty(self):
        for rules in (
                [("S", ("S", "a")), ("S", ("a",))],
                [("S", ("a", "S")), ("S", ())],
                [("S", ("S", "N")), ("S", ("a",)), ("N", ("n",))],
                [("S", ("E", "S", "N", "E")), ("S", ("a",)), ("N", ("n",)), ("E", ())],
                [("S", ("S", "S")), ("S", ("a",))],
                [("S", ("A", "A")), ("A", ("B", "B")), ("B", ())],
                [("S", ("A", "b")), ("A", ("S",)), ("A", ())]):
            self.assertEqual(Grammar(rules).rules, rules)

    def test_a_ring_of_all_24_rules(self):
        rules = [(f"N{at}", (f"N{(at + 1) % 23}",)) for at in range(23)] + [("N7", ("a",))]
        self.assertEqual(len(self.loop(rules)), 23)

    def test_told_soon_where_everything_leads_everywhere(self):
        names = [f"N{at}" for at in range(12)]
        rules = [(name, tuple(names[(at + step) % 12] for step in range(6))) for at, name in enumerate(names)]
        with Soon(self, 2):
            self.loop(rules + [(name, ()) for name in names])


class VastTest(RefusingTest):
    def test_least_trees_at_60_and_above(self):
        self.assertEqual(len(Grammar(chain(60, ("a",))).rules), 60)
        self.refused(Vast, ["S0"], chain(61, ("a",)))
        self.refused(Vast, ["S0", "S1", "S2"], chain(63, ("a", "b")))

    def test_trees_of_no_words_at_60_and_above(self):
        self.assertEqual(len(Grammar(chain(60, ())).rules), 60)
        self.refused(Vast, ["S0"], chain(61, ()))

    def test_each_tree_counts_as_often_as_it_stands(self):
        for leaf in ((), ("d",)):
            self.assertEqual(len(Grammar(wide(3, leaf)).rules), 5)
            self.refused(Vast, ["S"], wide(4, leaf))

    def test_a_short_rule_besides(self):
        self.assertEqual(len(Grammar(wide(4, ("d",)) + [("S", ("s",))]).rules), 6)
        self.assertEqual(len(Grammar(wide(4, ("d",)) + [("S", ())]).rules), 6)

    def test_a_short_rule_besides_a_large_tree_of_no_words(self):
        self.refused(Vast, ["S"], wide(4, ()) + [("S", ("s",))])
        self.refused(Vast, ["S"], wide(4, ()) + [("S", ())])
        self.assertEqual(len(Grammar(wide(3, ()) + [("S", ())]).rules), 6)

    def test_a_rule_with_words_besides_large_trees_of_no_words(self):
        self.refused(Vast, ["S"], [("T", ("S", "t"))] + wide(4, ()) + [("S", ("s",))])
        self.refused(Vast, ["T", "S"], [("T", ("S", "t"))] + wide(4, ()))

    def test_a_name_that_must_have_a_vast_one_is_vast(self):
        rules = [("Z", ("S",)), ("B", ("b",)), ("S", ("A",) * 9), ("A", ("B",) * 6)]
        self.refused(Vast, ["Z", "S"], rules)

    def test_a_name_beside_that_has_another_rule_is_not(self):
        rules = [("Z", ("S", "z")), ("Z", ("z",)), ("S", ("A",) * 9), ("A", ("B",) * 6), ("B", ("b",))]
        self.refused(Vast, ["S"], rules)

    def test_sizes_beyond_counting(self):
        for leaf in ((), ("b",)):
            rules = [(f"N{at}", (f"N{at + 1}",) * 6) for at in range(23)] + [("N23", leaf)]
            with Soon(self, 2):
                self.refused(Vast, [f"N{at}" for at in range(21)], rules)

    def test_a_large_tree_with_words_is_none_of_no_words(self):
        rules = [("S", ("A",) * 9), ("S", ()), ("A", ("B",) * 6), ("B", ("b",))]
        self.assertEqual(Grammar(rules).rules, rules)


class OrderTest(RefusingTest):
    def test_the_first_refusal_that_holds(self):
        vast = [("S", ("V",)), ("V", ("A",) * 9), ("A", ("B",) * 6), ("B", ())]
        self.refused(NoRules, None, [], TWICE)
        self.refused(Twice, "+", SHORT + ENDLESS + UNMET + LOOP + vast, TWICE)
        self.refused(Endless, ["Q"], SHORT + ENDLESS + UNMET + LOOP + vast)
        self.refused(Unmet, ["U"], SHORT + UNMET + LOOP + vast)
        self.assertEqual(self.loop(SHORT + LOOP + vast), [(1, 0)])
        self.refused(Vast, ["S", "V"], SHORT + vast)

    def test_each_two_of_them(self):
        vast = [("S", ("A",) * 9), ("A", ("B",) * 6), ("B", ("b",))]
        self.refused(Twice, "+", SHORT + ENDLESS, TWICE)
        self.refused(Twice, "+", SHORT + UNMET, TWICE)
        self.refused(Twice, "+", SHORT + LOOP, TWICE)
        self.refused(Twice, "+", vast, TWICE)
        self.refused(Endless, ["Q"], SHORT + ENDLESS + UNMET)
        self.refused(Endless, ["S"], LOOP)
        self.refused(Endless, ["Q"], vast + ENDLESS)
        self.refused(Unmet, ["U"], SHORT + LOOP + UNMET)
        self.refused(Unmet, ["U"], vast + UNMET)
        self.loop(vast + LOOP)

    def test_names_of_a_refusal_are_the_askers_own(self):
        rules = list(SHORT + UNMET)
        told = self.refused(Unmet, ["U"], rules).names
        told.append("more")
        self.refused(Unmet, ["U"], rules)
        self.assertEqual(rules, SHORT + UNMET)


class ChanceTest(unittest.TestCase):
    def hold(self, rules):
        wanted = plain_fault(rules)
        try:
            Grammar(rules)
        except Loop as error:
            self.assertEqual(wanted, ("Loop", None), rules)
            self.assertTrue(steps_are_a_loop(rules, error.steps), rules)
        except (Endless, Unmet, Vast) as error:
            self.assertEqual(wanted, (error.__class__.__name__, error.names), rules)
        else:
            self.assertIsNone(wanted, rules)
        return wanted[0] if wanted else None

    def test_against_the_plain_words(self):
        met = set()
        for seed, parts, names in ((21, 4, "ABCD"), (22, 2, "ABCD"), (23, 3, "ABC"), (24, 6, "AB")):
            for rules in chance_rule_lists(seed, 250, most_parts=parts, names=names):
                met.add(self.hold(rules))
        self.assertLessEqual({None, "Endless", "Unmet", "Loop"}, met)

    def test_sizes_against_the_plain_words(self):
        chance = random.Random(25)
        met = set()
        for _ in range(300):
            rules = []
            for at in range(7):
                below = [f"N{more}" for more in range(at + 1, 7)] + ["w"]
                for _ in range(chance.randrange(1, 3)):
                    # The name just below stands in each rule, so that none is unmet.
                    parts = below[:1] * (at < 6) + chance.choices(below, k=chance.randrange(4))
                    rules.append((f"N{at}", tuple(parts if chance.randrange(9) else parts[:at < 6])))
            met.add(self.hold(rules))
        self.assertLessEqual({None, "Vast"}, met)


if __name__ == "__main__":
    unittest.main()
