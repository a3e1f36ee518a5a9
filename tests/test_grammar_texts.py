"""Point 13: grammars read from texts."""

import random
import unittest

from tests.helpers import Soon, chance_rule_lists, plain_fault, steps_are_a_loop
from wright.errors import Endless, Loop, NoRow, NoRules, Twice, Unmet, Vast, WrightError
from wright.grammar_texts import read_grammar
from wright.grammars import Grammar

FOURTEEN = "abcdefghijklmn"
FIFTEEN = "abcdefghijklmno"


def rules_of(text):
    return read_grammar(text).rules


class ReadingTest(unittest.TestCase):
    def test_an_ordinary_grammar(self):
        grammar = read_grammar("E : E + E | n\nleft +\n| ( E )")
        self.assertIsInstance(grammar, Grammar)
        self.assertEqual(grammar.rules, [("E", ("E", "+", "E")), ("E", ("n",)), ("E", ("(", "E", ")"))])
        self.assertEqual(grammar.strengths, [("left", ("+",))])
        self.assertEqual(grammar.start(), "E")

    def test_rules_without_parts(self):
        self.assertEqual(rules_of("S :"), [("S", ())])
        self.assertEqual(rules_of("S : | a"), [("S", ()), ("S", ("a",))])
        self.assertEqual(rules_of("S : a |"), [("S", ("a",)), ("S", ())])
        self.assertEqual(rules_of("S : |"), [("S", ()), ("S", ())])
        self.assertEqual(rules_of("S : a | | b"), [("S", ("a",)), ("S", ()), ("S", ("b",))])
        self.assertEqual(rules_of("S : a\n|"), [("S", ("a",)), ("S", ())])
        self.assertEqual(rules_of("S : a\n| |"), [("S", ("a",)), ("S", ()), ("S", ())])

    def test_heads_told_anew(self):
        told = rules_of("S : T\nT : t\nS : s\n| u\nT : v")
        self.assertEqual(told, [("S", ("T",)), ("T", ("t",)), ("S", ("s",)), ("S", ("u",)), ("T", ("v",))])

    def test_rows_that_begin_with_a_bar_go_on_with_the_head_last_told(self):
        told = rules_of("S : T\nT : t\n| u\n| v w | x")
        self.assertEqual(told, [("S", ("T",)), ("T", ("t",)), ("T", ("u",)), ("T", ("v", "w")), ("T", ("x",))])

    def test_what_may_stand_between(self):
        grammar = read_grammar("S : a\n\nleft +\n# T : b\n   \nnone < >\n| c\nright ^\n| d")
        self.assertEqual(grammar.rules, [("S", ("a",)), ("S", ("c",)), ("S", ("d",))])
        self.assertEqual(grammar.strengths, [("left", ("+",)), ("none", ("<", ">")), ("right", ("^",))])

    def test_strengths_ahead_of_all_rules_and_none_at_all(self):
        self.assertEqual(read_grammar("left a\nS : a").strengths, [("left", ("a",))])
        self.assertEqual(read_grammar("S : a").strengths, [])

    def test_rows_that_are_passed_by(self):
        self.assertEqual(rules_of("\n#\n# left\n  #: : :\n#head : a\n   \nS : a\n#| b\n\n"), [("S", ("a",))])

    def test_a_hash_further_on_is_a_part(self):
        self.assertEqual(rules_of("S : # a #b\n| #"), [("S", ("#", "a", "#b")), ("S", ("#",))])
        self.assertEqual(read_grammar("S : a\nleft #").strengths, [("left", ("#",))])

    def test_more_blanks(self):
        grammar = read_grammar("   S   :  a    b  |c   |   d  \n  |  e \n   left    +   - ")
        self.assertEqual(grammar.rules, [("S", ("a", "b", "|c")), ("S", ("d",)), ("S", ("e",))])
        self.assertEqual(grammar.strengths, [("left", ("+", "-"))])

    def test_left_right_and_none_as_heads(self):
        grammar = read_grammar(
            "left : right none\nright : a left | b\nnone : | c\nnone : d\nright left a\nleft : e\nnone none")
        self.assertEqual(grammar.rules, [
            ("left", ("right", "none")), ("right", ("a", "left")), ("right", ("b",)), ("none", ()), ("none", ("c",)),
            ("none", ("d",)), ("left", ("e",))])
        self.assertEqual(grammar.strengths, [("right", ("left", "a")), ("none", ("none",))])

    def test_left_right_and_none_without_parts(self):
        for way in ("left", "right", "none"):
            self.assertEqual(rules_of(f"{way} :"), [(way, ())])
            self.assertEqual(rules_of(f"S : {way}"), [("S", (way,))])

    def test_words_that_only_look_like_the_marks_of_rows(self):
        self.assertEqual(rules_of(":: : || :a a: |a\n|a : ::* ||+")[:2],
                         [("::", ("||", ":a", "a:", "|a")), ("|a", ("::*", "||+"))])

    def test_fourteen_signs(self):
        grammar = read_grammar(f"{FOURTEEN} : {FOURTEEN.upper()} | {FOURTEEN[1:]}+\nleft {FOURTEEN}")
        self.assertEqual(grammar.rules[:2], [(FOURTEEN, (FOURTEEN.upper(),)), (FOURTEEN, (FOURTEEN[1:] + "+",))])
        self.assertEqual(grammar.strengths, [("left", (FOURTEEN,))])

    def test_written_anyhow(self):
        chance = random.Random(31)
        texts = 0
        for rules in chance_rule_lists(32, 400, names=["A", "B", "left", "::"], words=["x", "|y", "*", "none", "#"]):
            if plain_fault(rules) is None:
                self.assertEqual(rules_of(written(chance, rules)), rules)
                texts += 1
        self.assertGreater(texts, 50)


def written(chance, rules):
    """The rules as a text, with rows, blanks and rows that are passed by as chance has it."""
    rows = []
    last = None
    for head, parts in rules:
        told = "".join(" " * chance.randrange(1, 4) + part for part in parts) + " " * chance.randrange(2)
        way = chance.randrange(3) if head == last else 0
        if way == 2:
            rows[-1] += f" |{told}"
        else:
            rows += chance.choice([[], [""], [" # a : b"], [f"  left w{len(rows)}"]]) if rows else []
            rows.append(" " * chance.randrange(3) + (f"|{told}" if way == 1 else f"{head}  :{told}"))
        last = head
    return "\n".join(rows)


class AgainTest(unittest.TestCase):
    def test_each_mark(self):
        self.assertEqual(rules_of("S : x*"), [("S", ("x*",)), ("x*", ()), ("x*", ("x*", "x"))])
        self.assertEqual(rules_of("S : x+"), [("S", ("x+",)), ("x+", ("x",)), ("x+", ("x+", "x"))])
        self.assertEqual(rules_of("S : x?"), [("S", ("x?",)), ("x?", ()), ("x?", ("x",))])

    def test_of_a_name(self):
        self.assertEqual(rules_of("S : T+\nT : t"), [
            ("S", ("T+",)), ("T", ("t",)), ("T+", ("T",)), ("T+", ("T+", "T"))])

    def test_the_rules_stand_once_behind_all_others(self):
        self.assertEqual(rules_of("S : x* a x* | b x*\nS : x* c T\nT : x*"), [
            ("S", ("x*", "a", "x*")), ("S", ("b", "x*")), ("S", ("x*", "c", "T")), ("T", ("x*",)),
            ("x*", ()), ("x*", ("x*", "x"))])

    def test_one_within_another(self):
        self.assertEqual(rules_of("S : x+*"), [
            ("S", ("x+*",)), ("x+*", ()), ("x+*", ("x+*", "x+")), ("x+", ("x",)), ("x+", ("x+", "x"))])
        self.assertEqual(rules_of("S : x*?"), [
            ("S", ("x*?",)), ("x*?", ()), ("x*?", ("x*",)), ("x*", ()), ("x*", ("x*", "x"))])
        self.assertEqual(rules_of("S : x+?"), [
            ("S", ("x+?",)), ("x+?", ()), ("x+?", ("x+",)), ("x+", ("x",)), ("x+", ("x+", "x"))])

    def test_those_within_stand_behind_all_that_are_written(self):
        heads = [head for head, parts in rules_of("S : a+* b?\nT : c*\nS : T") if head not in "ST"]
        self.assertEqual(heads, ["a+*", "a+*", "b?", "b?", "c*", "c*", "a+", "a+"])

    def test_those_within_that_are_written_too_stand_where_they_are_written(self):
        heads = [head for head, parts in rules_of("S : a+* b? T\nT : c a+ d+") if head not in "ST"]
        self.assertEqual(heads, ["a+*", "a+*", "b?", "b?", "a+", "a+", "d+", "d+"])

    def test_those_within_those_within(self):
        heads = [head for head, parts in rules_of("S : a++* b++?") if head != "S"]
        self.assertEqual(heads[::2], ["a++*", "b++?", "a++", "b++", "a+", "b+"])
        self.assertEqual(heads[1::2], heads[::2])

    def test_a_sign_alone_does_not_come_again(self):
        self.assertEqual(rules_of("* : + ? | a"), [("*", ("+", "?")), ("*", ("a",))])
        self.assertEqual(rules_of("S : *"), [("S", ("*",))])

    def test_two_signs_come_again(self):
        self.assertEqual(rules_of("S : **"), [("S", ("**",)), ("**", ()), ("**", ("**", "*"))])
        self.assertEqual(rules_of("S : +?"), [("S", ("+?",)), ("+?", ()), ("+?", ("+",))])
        self.assertEqual(rules_of("S : ?++")[1:], [
            ("?++", ("?+",)), ("?++", ("?++", "?+")), ("?+", ("?",)), ("?+", ("?+", "?"))])

    def test_words_of_strengths_make_no_rules(self):
        grammar = read_grammar("S : a\nleft a* b+ a?")
        self.assertEqual(grammar.rules, [("S", ("a",))])
        self.assertEqual(grammar.strengths, [("left", ("a*", "b+", "a?"))])

    def test_marks_further_ahead_are_plain_signs(self):
        self.assertEqual(rules_of("*a : b*c +d ?:"), [("*a", ("b*c", "+d", "?:"))])

    def test_eleven_marks(self):
        rules = rules_of("S : x" + "+" * 11)
        self.assertEqual(len(rules), 23)
        self.assertEqual(rules[-1], ("x+", ("x+", "x")))


class RefusedTest(unittest.TestCase):
    def refused(self, kind, text):
        with self.assertRaises(WrightError) as caught:
            read_grammar(text)
        self.assertIs(caught.exception.__class__, kind, text)
        return caught.exception

    def no_row(self, row, text):
        self.assertEqual(self.refused(NoRow, text).row, row, text)

    def test_rows_of_no_kind(self):
        for row in ("a", "a b", "a b : c", "S: a", "S :a", "S a :", "S a | b", "Left a", "lefts a", "|a b", "* a"):
            self.no_row(2, f"S : a\n{row}")

    def test_marks_of_rows_are_no_heads(self):
        for row in (":", ": a", ": : a", "| : a", ":* : a", "|+ : a", ":?+ : a"):
            self.no_row(2, f"S : a\n{row}")

    def test_marks_of_rows_are_no_parts(self):
        for row in ("S : :", "S : a : b", "S : a | : b", "S :  a :", "| :", "| a : b", "left : :"):
            self.no_row(2, f"S : a\n{row}")

    def test_marks_of_rows_do_not_come_again(self):
        for word in (":*", ":+", ":?", "|*", "|+", "|?", ":+?", "|?*+", ":" + "*" * 13):
            for row in (f"S : {word}", f"S : a {word} b", f"| {word}", f"left {word}", f"none a {word}", f"{word} : a"):
                self.no_row(2, f"S : a\n{row}")

    def test_heads_that_come_again(self):
        for head in ("x*", "x+", "x?", "x+*", "**", "++", "*?", "left+"):
            self.no_row(2, f"S : a\n{head} : a")
            self.no_row(2, f"S : {head}\n{head} :")

    def test_strengths_that_are_none(self):
        for row in ("left", "right", "none", "left |", "left a |", "left a :", "left a : b", "none | a", "right a | b"):
            self.no_row(2, f"S : a\n{row}")

    def test_fifteen_signs(self):
        for row in (f"{FIFTEEN} : a", f"S : {FIFTEEN}", f"S : a | b {FIFTEEN}", f"| {FIFTEEN}", f"left {FIFTEEN}",
                    f"left a {FIFTEEN}", f"S : {FOURTEEN}*", f"left {FOURTEEN}?"):
            self.no_row(2, f"S : a\n{row}")

    def test_a_bar_ahead_of_all_heads(self):
        self.no_row(1, "| a")
        self.no_row(1, "|")
        self.no_row(2, "left a\n| b\nS : a")
        self.no_row(3, "# S : a\n\n  | b\nS : a")

    def test_all_rows_are_counted(self):
        self.no_row(1, "bad")
        self.no_row(7, "\n# x\n\nS : a\n\nleft a\nbad")
        self.no_row(4, "   \nS : a\n| b\n bad \nS : c")

    def test_the_first_of_several(self):
        self.no_row(2, "S : a\nbad\nbad too\nleft")
        self.no_row(3, "S : a\n\nleft\n| :\nbad")

    def test_ahead_of_all_other_refusals(self):
        self.no_row(2, "left a a\nbad")
        self.no_row(2, "S : S\nx* : a")
        self.no_row(3, "S : a\nT : b\nleft")

    def test_no_rules(self):
        for text in ("", "  ", "\n\n", "# S : a", "left a", "left a a"):
            self.refused(NoRules, text)

    def test_twice(self):
        self.assertEqual(self.refused(Twice, "S : a\nleft a b\nright c b").word, "b")
        self.assertEqual(self.refused(Twice, "left b b\nS : S").word, "b")

    def test_endless_and_unmet(self):
        self.assertEqual(self.refused(Endless, "S : S+ a\nT : b").names, ["S", "S+"])
        self.assertEqual(self.refused(Unmet, "S : a\nT : b+*").names, ["T", "b+*", "b+"])

    def test_loop(self):
        for text in ("S : x?*", "S : x*+", "S : x**", "S : S x? | a", "S : T*\nT :"):
            steps = self.refused(Loop, text).steps
            self.assertGreaterEqual(len(steps), 1)
        rules = [("S", ("x?*",)), ("x?*", ()), ("x?*", ("x?*", "x?")), ("x?", ()), ("x?", ("x",))]
        self.assertTrue(steps_are_a_loop(rules, self.refused(Loop, "S : x?*").steps))

    def test_vast(self):
        text = "S : A A A A A C\nA : B B\nB : D D D D\nC : D D D{}\nD :"
        self.assertEqual(len(rules_of(text.format(""))), 5)
        self.assertEqual(self.refused(Vast, text.format(" D")).names, ["S"])


class SoonTest(unittest.TestCase):
    def test_texts_of_2000_signs(self):
        names = [f"name{at:02d}" for at in range(24)]
        rows = [f"{name} : {' '.join(names[at + 1:at + 6])} word{at:04d}" for at, name in enumerate(names)]
        text = "\n".join(rows) + "\n# " + "x" * 800
        self.assertIn(len(text), range(1900, 2100))
        with Soon(self, 2), self.assertRaises(Vast):
            read_grammar(text)
        short = "\n".join(f"{name} : word{at:04d} {'' if at == 23 else names[at + 1]}" for at, name in enumerate(names))
        with Soon(self, 2):
            self.assertEqual(len(rules_of(short)), 24)

    def test_rows_without_end(self):
        with Soon(self, 2):
            self.assertEqual(rules_of("\n" * 1990 + "S : a"), [("S", ("a",))])
            self.assertEqual(len(rules_of("S :" + " |" * 990)), 991)


if __name__ == "__main__":
    unittest.main()
