"""Points 1, 2 and 3 over the whole program: from texts to trees, with their papers, and what holds everywhere."""

import copy
import random
import unittest

from tests.helpers import (
    PlainTrees, Soon, chance_rows, chance_text, deep_patterns, long_rules, plain_price, plain_rows, sound_lists, wide_rules)
from wright import errors
from wright.begin_checks import begins_lack, begins_stand, empties_lack, empties_stand
from wright.begins import begin_words, begins_of, empties_of
from wright.clash_papers import clash_paper, deeds_of_tree, paper_stands
from wright.cutting import Cutter
from wright.deed_trees import tree_of
from wright.deeds import clashes_of, deeds_of
from wright.desk import Desk
from wright.grammar_texts import read_grammar
from wright.grammars import Grammar
from wright.joined import join_clashes, joined_plan
from wright.keeper import Keeper
from wright.mend_checks import paper_lacks, price_of
from wright.mending import mend_paper, mended_row
from wright.pattern_texts import read_pattern
from wright.patterns import has_text, left_of, longest
from wright.places import closed_list, moved_list
from wright.reader import Reader, read_with
from wright.refusals import refusal_of, refusal_stands, sets_lack
from wright.rooms import rooms_of
from wright.rules import heads_of, numbers_of, words_in
from wright.sets import goes_on, place_sets
from wright.spans import count_trees, first_trees, makes
from wright.strengths import put_right
from wright.table_checks import table_lacks, table_stands
from wright.trees import row_of, tree_stands

SUM = [("E", ("E", "+", "T")), ("E", ("T",)), ("T", ("n",)), ("T", ("(", "E", ")"))]
LOOSE = [("E", ("E", "+", "E")), ("E", ("n",)), ("E", ("E", "?", "A")), ("A", ()), ("A", ("n", "A"))]
# 24 rules of 6 parts each, or thereabouts.
RINGS = [(f"N{at}", tuple(f"N{(at + step) % 12}" for step in range(1, 7))) for at in range(12)]
RINGS += [(f"N{at}", ("a", f"w{at}", "b", "c", "d", "e")) for at in range(12)]
ALIKE = [("S", ("S",) * 6)] * 22 + [("S", ("S", "S")), ("S", ("a",))]
HOLLOW = [(f"N{at}", (f"N{at + 1}",) * 2 + ("a",)) for at in range(11)] + [(f"N{at}", ()) for at in range(12)]
WORDS = [("S", tuple(f"w{at}-{place}" for place in range(6))) for at in range(24)]
LONGEST = [RINGS, ALIKE, HOLLOW, WORDS, long_rules(118), long_rules(144), wide_rules(13, 23), wide_rules(14, 24)]


def written(rules, tree):
    if isinstance(tree, str):
        return tree
    return rules[tree[0]][0] + "(" + " ".join(written(rules, child) for child in tree[1]) + ")"


def told_of(call):
    """What is told, or the refusal's class and values."""
    try:
        return call()
    except errors.WrightError as error:
        return type(error), vars(error)


class TextsToTreesTest(unittest.TestCase):
    def test_the_words_are_the_longest_and_the_text(self):
        chance = random.Random(10)
        kinds = [("id", "[a-c]+"), ("two", "ab|b"), ("-", "[ ~-]+"), ("num", "[0-2]+(.[0-2]+)?"), (".", "."), ("ab", "abc?")]
        cutter = Cutter([(kind, read_pattern(text)) for kind, text in kinds])
        for seed in range(40):
            text = chance_text(seed, chance.randrange(60), "abc 012.-")
            place = 0
            for kind, word in cutter.cut(text):
                while text[place] in " -":
                    place += 1
                self.assertTrue(text.startswith(word, place))
                sizes = [longest(read_pattern(one), text, place) for name, one in kinds]
                self.assertEqual(len(word), max(sizes))
                self.assertEqual(kind, kinds[sizes.index(max(sizes))][0])
                place += len(word)
            self.assertEqual(text[place:].strip(" -"), "")

    def test_plain_and_read_are_alike_where_no_clash_is_told(self):
        chance = random.Random(11)
        seen = {"clash": 0, "tree": 0, "refused": 0, "many": 0}
        for rules in sound_lists(241, 500) + sound_lists(242, 150, 12, 4, "ABCDEF", "vwxyz"):
            desk = Desk()
            for word in "vwxyz":
                desk.say(f"word {word} {word}")
            desk.say("word name [A-F]")
            desk.say("word - ~ ")
            desk.say("grammar\n" + "\n".join(f"{head} : {' '.join(parts)}" for head, parts in rules))
            plain = PlainTrees(rules)
            rows = chance_rows(chance.random(), 6, 5, "vwxyz") + [list(row) for row in plain_rows(rules, 3)[:6]]
            for row in rows:
                text = " " * chance.randrange(3) + " ".join(row)
                by_plain, by_read = [told_of(lambda: desk.say(f"{asked} {text}")) for asked in ("plain", "read")]
                trees = plain.of("A", tuple(row))
                self.assertEqual(desk.say(f"count {text}"), str(len(trees)))
                if desk.say("clashes") != "0":
                    seen["clash"] += 1
                    self.assertIs(by_read[0], errors.Clash)
                    seen["many"] += len(trees) > 1
                    continue
                self.assertEqual(by_plain, by_read)
                if trees:
                    seen["tree"] += 1
                    self.assertEqual(len(trees), 1)
                    self.assertEqual(by_plain, written(rules, trees[0]))
                else:
                    seen["refused"] += 1
                    place, sets = refusal_of(Grammar(rules), row)
                    self.assertEqual(by_plain, (errors.Refused, {"place": place}))
                    self.assertIs(refusal_stands(rules, row, (place, sets)), True)
        self.assertGreater(min(seen.values()), 20, seen)


class PapersTest(unittest.TestCase):
    """All that a maker tells is let by its checker."""

    def check(self, rules, rows):
        grammar = Grammar(rules)
        names = [name for name, number in empties_of(grammar)]
        pairs = [told[:2] for told in begins_of(grammar)]
        self.assertIs(empties_stand(rules, empties_of(grammar)), True)
        self.assertIsNone(empties_lack(rules, names))
        self.assertIs(begins_stand(rules, names, begins_of(grammar)), True)
        self.assertIsNone(begins_lack(rules, names, pairs))
        plan = rooms_of(grammar)
        deeds = deeds_of(grammar, plan)
        clashes = clashes_of(deeds)
        self.assertIs(table_stands(rules, plan, deeds), not clashes)
        for room, word, clash in clashes:
            told = [("step", word) if deed[0] == "step" else deed for deed in clash]
            paper = clash_paper(grammar, plan, room, word, clash[0], clash[1])
            self.assertIs(paper_stands(rules, paper, word, told[0], told[1]), True)
        if not clashes:
            self.assertIsNone(table_lacks(rules, names, pairs, plan, deeds))
        joined = joined_plan(plan)[0]
        self.assertEqual(bool(clashes_of(deeds_of(grammar, joined))), bool(clashes or join_clashes(grammar, plan)))
        for row in rows:
            self.check_row(grammar, row, [] if clashes else [(plan, deeds), (joined, deeds_of(grammar, joined))])
        return bool(clashes)

    def check_row(self, grammar, row, tables):
        rules = grammar.rules
        refusal = refusal_of(grammar, row)
        self.assertEqual(refusal is None, makes(grammar, row))
        trees = first_trees(grammar, row, 20)
        for tree in trees:
            self.assertIs(tree_stands(rules, tree, grammar.start()), True)
            self.assertEqual((row_of(tree), tree_of(rules, deeds_of_tree(tree))), (row, tree))
        if refusal is not None:
            self.assertIs(refusal_stands(rules, row, refusal), True)
            self.assertIsNone(sets_lack(rules, row[:refusal[0]], refusal[1]))
        for plan, deeds in tables:
            if not clashes_of(deeds):
                told = told_of(lambda: read_with(rules, plan, deeds, row))
                if refusal is None:
                    self.assertEqual(told, (deeds_of_tree(trees[0]), trees[0]))
                else:
                    self.assertEqual(told, (errors.Refused, {"place": refusal[0]}))
        prices = (2, 3, 4)
        price, changes, tree = mended_row(grammar, row, prices)
        paper = mend_paper(grammar, row, prices)
        self.assertIsNone(paper_lacks(rules, row, prices, paper))
        self.assertEqual({told[:3]: told[3] for told in paper[0]}[grammar.start(), 0, len(row)], price)
        self.assertEqual((price_of(changes, prices), price == 0), (price, refusal is None))
        self.assertEqual(price, plain_price(row, row_of(tree), prices))
        self.assertIs(tree_stands(rules, tree, grammar.start()), True)

    def test_by_chance(self):
        clashes = 0
        for rules in sound_lists(243, 400):
            rows = chance_rows(244, 2, 4, "xyz") + [list(row) for row in plain_rows(rules, 4)[:2]]
            clashes += self.check(rules, rows)
        self.assertGreater(clashes, 10)

    def test_sums(self):
        self.check(SUM, [list(row) for row in ("n", "n+(n)", "", "+", "n+", "((n)", "nn")])


class EverywhereTest(unittest.TestCase):
    """Point 2: nothing handed in is changed, and told lists are new ones."""

    def lists_in(self, told):
        if isinstance(told, (list, tuple)):
            return [told] * isinstance(told, list) + [one for item in told for one in self.lists_in(item)]
        return []

    def check(self, call, *handed):
        kept = copy.deepcopy(handed)
        first = call(*handed)
        second = call(*handed)
        self.assertEqual(handed, kept)
        wanted = copy.deepcopy(first)
        own = self.lists_in(first) + self.lists_in(second) + self.lists_in(handed)
        self.assertEqual(len({id(one) for one in own}), len(own))
        for one in self.lists_in(first):
            one.append("more")
            one.reverse()
        self.assertEqual(second, wanted)
        self.assertEqual(call(*handed), wanted)
        self.assertEqual(handed, kept)
        # What is handed in is changed behind.
        third = call(*handed)
        for one in self.lists_in(handed):
            one.clear()
        self.assertEqual(third, wanted)

    def test_rules_and_rows(self):
        for call in (heads_of, words_in):
            self.check(call, list(SUM))
        self.check(numbers_of, list(SUM), "T")
        self.check(row_of, (0, ("a", (1, ("b",)))))
        self.check(Cutter([("a", read_pattern("a+"))]).cut, "aa")

    def test_grammars(self):
        for rules in (SUM, LOOSE):
            grammar = Grammar(rules)
            for call in (empties_of, begins_of, rooms_of):
                self.check(lambda: call(grammar))
            for row in (["n"], ["n", "n"], ["n", "+", "n", "+", "n"], []):
                for call in (place_sets, goes_on, refusal_of, makes, count_trees):
                    self.check(lambda told: call(grammar, told), list(row))
                self.check(lambda told: first_trees(grammar, told, 5), list(row))
                self.check(lambda told: mended_row(grammar, told, (1, 1, 1)), list(row))
                self.check(lambda told: mend_paper(grammar, told, (1, 1, 1)), list(row))
            self.check(lambda parts: begin_words(grammar, parts, ""), ["E", "+"])
            self.check(lambda places: closed_list(grammar, places), [(0, 0, "")])
            self.check(lambda places: moved_list(grammar, places, "E"), [(0, 0, "")])
            plan = rooms_of(grammar)
            self.check(lambda *told: deeds_of(grammar, told), *copy.deepcopy(plan))
            self.check(clashes_of, deeds_of(grammar, plan))
            self.check(lambda deeds: put_right(grammar, deeds), deeds_of(grammar, plan))
            self.check(joined_plan, copy.deepcopy(plan))
            self.check(lambda told: join_clashes(grammar, told), copy.deepcopy(plan))
        self.check(deeds_of_tree, (0, ("a", (1, ("b",)))))

    def test_checkers(self):
        grammar = Grammar(SUM)
        plan = rooms_of(grammar)
        names = []
        pairs = [told[:2] for told in begins_of(grammar)]
        self.check(empties_stand, list(SUM), empties_of(grammar))
        self.check(begins_stand, list(SUM), names, begins_of(grammar))
        self.check(begins_lack, list(SUM), list(names), pairs[:-1])
        self.check(table_stands, list(SUM), copy.deepcopy(plan), deeds_of(grammar, plan))
        self.check(table_lacks, list(SUM), list(names), list(pairs), copy.deepcopy(plan), deeds_of(grammar, plan)[1:])
        self.check(tree_of, list(SUM), deeds_of_tree((1, ((2, ("n",)),))))
        self.check(refusal_stands, list(SUM), ["n", "n"], refusal_of(grammar, ["n", "n"]))
        self.check(sets_lack, list(SUM), ["n"], [[], []])
        self.check(price_of, [("put", "a"), ("keep", "b")], (1, 2, 3))
        self.check(paper_lacks, list(SUM), ["n"], (1, 1, 1), mend_paper(grammar, ["n"], (1, 1, 1)))
        self.check(read_with, list(SUM), copy.deepcopy(plan), deeds_of(grammar, plan), ["n", "+", "n"])

    def test_readers_and_keepers(self):
        reader = Reader(Grammar(SUM))
        for call in (reader.plan, reader.deeds, reader.aside):
            self.check(call)
        self.check(reader.read, ["n", "+", "n"])
        keeper = Keeper(reader, ["n", "+", "n"])
        self.check(keeper.words)
        self.check(keeper.tree)
        self.check(lambda words: keeper.change(0, 1, words)[0], ["(", "n", ")"][1:2])

    def test_grammars_and_cutters_keep_copies(self):
        rules = list(SUM)
        strengths = [("left", ("+",))]
        grammar = Grammar(rules, strengths)
        kinds = [("a", read_pattern("a"))]
        cutter = Cutter(kinds)
        rules.clear()
        strengths.clear()
        kinds.clear()
        self.assertEqual((grammar.rules, grammar.strengths, grammar.start()), (SUM, [("left", ("+",))], "E"))
        self.assertEqual(cutter.cut("a"), [("a", "a")])

    def test_refusals_tell_lists_of_their_own(self):
        for rules, name in (([("S", ("A",)), ("A", ("A",))], "names"), ([("S", ("a",)), ("A", ())], "names"),
                            ([("S", ("S",)), ("S", ())], "steps")):
            for _ in range(2):
                told = told_of(lambda: Grammar(rules))[1][name]
                self.assertTrue(told)
                told.clear()


class SoonTest(unittest.TestCase):
    """Of the longest grammars, rows and texts all is told soon."""

    def test_grammars_of_24_rules(self):
        for rules in LONGEST:
            with Soon(self, 10):
                grammar = Grammar(rules)
                names = [name for name, number in empties_of(grammar)]
                pairs = [told[:2] for told in begins_of(grammar)]
                self.assertIs(empties_stand(rules, empties_of(grammar)), True)
                self.assertIs(begins_stand(rules, names, begins_of(grammar)), True)
                self.assertIsNone(begins_lack(rules, names, pairs))
                plan = told_of(lambda: rooms_of(grammar))
                if plan[0] is not errors.TooMany:
                    deeds = deeds_of(grammar, plan)
                    self.assertIs(table_stands(rules, plan, deeds), not clashes_of(deeds))
                    self.assertIsNone(table_lacks(rules, names, pairs, plan, deeds))
                    join_clashes(grammar, plan)
                    for room, word, clash in clashes_of(deeds)[:40]:
                        clash_paper(grammar, plan, room, word, clash[0], clash[1])
                told_of(lambda: Reader(grammar))

    def test_rows_of_40_words(self):
        for rules in LONGEST:
            grammar = Grammar(rules)
            words = words_in(rules)
            for row in ((words * 40)[:40], words[:1] * 40, (words[:6] * 7)[:39] + ["none"]):
                with Soon(self, 15):
                    many = count_trees(grammar, row)
                    for tree in first_trees(grammar, row, 20):
                        self.assertEqual(row_of(tree), row)
                    goes_on(grammar, row)
                    refusal = refusal_of(grammar, row)
                    self.assertEqual(refusal is None, many > 0)
                    if refusal is not None:
                        self.assertIs(refusal_stands(rules, row, refusal), True)
                    self.assertIsNone(sets_lack(rules, row, place_sets(grammar, row)))
                with Soon(self, 5):
                    price, changes, tree = mended_row(grammar, row[:12], (3, 4, 5))
                    self.assertIsNone(paper_lacks(rules, row[:12], (3, 4, 5), mend_paper(grammar, row[:12], (3, 4, 5))))

    def test_texts_of_2000_signs(self):
        text = "(" * 18 + "a" * 1960 + ")" * 18
        desk = Desk()
        with Soon(self, 10):
            self.assertEqual(desk.say(f"word deep {text}"), "ok")
            self.assertEqual(desk.say("word one [ab]"), "ok")
            self.assertEqual(desk.say("grammar\nS : S deep | S one |"), "ok")
            self.assertEqual(desk.say("read " + "a" * 1960 + "b" * 40).count("one"), 40)
            self.assertEqual(desk.say("count " + "b" * 40), "1")
        for name, pattern in deep_patterns().items():
            with Soon(self, 5):
                self.assertIs(has_text(left_of(pattern, "a"), "b" * 1999), has_text(pattern, "a" + "b" * 1999))

    def test_a_grammars_text_of_2000_signs(self):
        rows = [f"name{at:010} : " + " ".join(f"word{place:08}" for place in range(5)) + f" name{at + 1:010}"
                for at in range(17)]
        text = "\n".join(rows + [f"name{17:010} :"])
        self.assertLess(len(text), 2000)
        with Soon(self, 5):
            grammar = read_grammar(text)
            self.assertEqual(len(Reader(grammar).plan()[0]), 104)
            self.assertEqual(len(row_of(Reader(grammar).read([f"word{place:08}" for place in range(5)] * 17)[1])), 85)


if __name__ == "__main__":
    unittest.main()
