"""Points 49 and 50: the rows that a desk is told, its answers, and its refusals."""

import itertools
import unittest

from tests.helpers import Soon, plain_price, plain_rows, wide_rules
from wright import errors
from wright.cutting import Cutter
from wright.desk import Desk
from wright.grammar_texts import read_grammar
from wright.mending import mended_row
from wright.pattern_texts import read_pattern
from wright.reader import Reader
from wright.refusals import refusal_of
from wright.sets import goes_on
from wright.spans import count_trees
from wright.trees import row_of

KINDS = ["word num [0-9]+", "word - [ ]+", "word op [+*]", "word ( ~(", "word ) ~)"]
# Without a clash.
SUM = "grammar\nE : E + T | T\nT : T * F | F\nF : num | ( E )"
# With four clashes, settled by nothing, in part, or all.
LOOSE = "grammar\nE : E + E | E * E | num"
STRONG = LOOSE + "\nleft +\nleft *"
# More than 120 rooms.
WIDE = "grammar\n" + "\n".join(f"{head} : {' '.join(parts)}" for head, parts in wide_rules(14, 24))


def desk_of(*rows):
    desk = Desk()
    for row in rows:
        assert desk.say(row) == "ok"
    return desk


class DeskTest(unittest.TestCase):
    def refused(self, desk, told, error, **values):
        with self.assertRaises(error) as caught:
            desk.say(told)
        self.assertIs(type(caught.exception), error)
        for name, value in values.items():
            self.assertEqual(getattr(caught.exception, name), value)

    def check(self, desk, answers):
        for row, answer in answers.items():
            told = desk.say(row)
            self.assertIs(type(told), str)
            self.assertEqual(told, answer, row)


class AnswersTest(DeskTest):
    def test_words_and_grammars(self):
        desk = Desk()
        for row in KINDS + [SUM, "word a a", "word - ", "word - -", "grammar\nS :"]:
            self.assertEqual(desk.say(row), "ok")

    def test_plain_and_read(self):
        for asked in ("plain", "read"):
            self.check(desk_of(*KINDS, SUM), {
                f"{asked} 1": "E(T(F(num)))",
                f"{asked} 1+22": "E(E(T(F(num))) + T(F(num)))",
                f"{asked} 1 + 2*3": "E(E(T(F(num))) + T(T(F(num)) * F(num)))",
                f"{asked} ( 1 )": "E(T(F(( E(T(F(num))) ))))",
                f"{asked}   7  ": "E(T(F(num)))"})

    def test_trees_without_children_and_without_words(self):
        for asked in ("plain", "read"):
            self.check(desk_of("word a a", "grammar\nS : A B | a\nA :\nB : A"), {
                f"{asked} ": "S(A() B(A()))", f"{asked} a": "S(a)"})
            self.check(desk_of("grammar\nS :"), {f"{asked} ": "S()"})

    def test_plain_tells_the_first_tree(self):
        desk = desk_of(*KINDS, LOOSE)
        self.check(desk, {"plain 1+2+3": "E(E(num) + E(E(num) + E(num)))", "plain 1*2+3": "E(E(E(num) * E(num)) + E(num))"})

    def test_read_goes_by_the_strengths(self):
        self.check(desk_of(*KINDS, STRONG), {
            "read 1+2+3": "E(E(E(num) + E(num)) + E(num))", "read 1+2*3": "E(E(num) + E(E(num) * E(num)))",
            "read 1*2+3": "E(E(E(num) * E(num)) + E(num))", "plain 1+2+3": "E(E(num) + E(E(num) + E(num)))"})
        self.check(desk_of(*KINDS, LOOSE + "\nright + *"), {"read 1*2+3": "E(E(num) * E(E(num) + E(num)))"})

    def test_kinds_that_stand_as_words_in_the_grammar(self):
        # The kind where it is a word of the rules, else the text; a name is none, nor a word of a strength.
        kinds = ["word id [a-z]+", "word S [A-Z]+", "word way [0-9]+", "word - _"]
        self.check(desk_of(*kinds, "grammar\nS : id | X | 12 way | 12 34\nleft odd"), {
            "plain abc": "S(id)", "plain X": "S(X)", "plain id": "S(id)"})
        desk = desk_of(*kinds, "grammar\nS : id | X | 12 34\nleft way")
        self.check(desk, {"plain 12_34": "S(12 34)", "next 12": "34"})
        self.refused(desk, "plain 12_12", errors.Refused, place=1)
        desk = desk_of(*kinds, "grammar\nS : id | X | 12 way")
        # Now the kind of each number is a word: 12 can't be met any more.
        self.refused(desk, "plain 12_34", errors.Refused, place=0)
        self.check(desk, {"next ": "12 X id"})

    def test_a_text_that_is_a_name(self):
        desk = desk_of("word w [A-Z]+", "grammar\nS : A b\nA : a")
        for asked in ("plain", "read"):
            self.refused(desk, f"{asked} A", errors.Refused, place=0)
        self.check(desk, {"count A": "0", "next A": ""})

    def test_the_kind_that_is_passed_by(self):
        desk = desk_of("word a a", "word - x|-", "grammar\nS : a a | -")
        self.check(desk, {"plain aa": "S(a a)", "plain xaxxax": "S(a a)", "plain -a-a-": "S(a a)", "count ---": "0",
                          "next xx": "- a"})

    def test_the_first_kind_of_several_and_the_longest_word(self):
        desk = desk_of("word if if", "word id [a-z]+", "word if2 if", "grammar\nS : if | id | if2")
        self.check(desk, {"plain if": "S(if)", "plain iff": "S(id)"})

    def test_a_kind_told_behind_the_grammar(self):
        desk = desk_of("grammar\nS : a | a S")
        self.refused(desk, "plain aa", errors.NoWord, place=0)
        self.check(desk, {"word a a": "ok", "plain aa": "S(a S(a))"})
        self.refused(desk, "plain a a", errors.NoWord, place=1)
        self.check(desk, {"word - ~ ": "ok", "plain a a": "S(a S(a))"})

    def test_patterns_with_blanks(self):
        desk = desk_of("word sp  ", "word two a b", "word c c | d", "grammar\nS : sp two | two sp | c | two")
        self.check(desk, {"plain  a b": "S(sp two)", "plain a b ": "S(two sp)", "plain a b": "S(two)", "plain c ": "S(c)",
                          "plain  d": "S(c)"})

    def test_a_pattern_without_a_sign(self):
        desk = desk_of("word e ", "grammar\nS : e |")
        self.check(desk, {"plain ": "S()"})
        self.refused(desk, "plain e", errors.NoWord, place=0)

    def test_texts_with_blanks_and_without_a_sign(self):
        desk = desk_of("word b  ", "word a a", "grammar\nS : b a b | b |")
        self.check(desk, {"plain  a ": "S(b a b)", "plain  ": "S(b)", "plain ": "S()", "read  ": "S(b)", "count  a ": "1",
                          "next  ": ". a", "next ": ". b", "mend 1 1 1  ": "0 b", "mend 1 1 1 ": "0", "count ": "1"})

    def test_the_longest_kinds(self):
        kind = "k" * 14
        self.check(desk_of(f"word {kind} a", f"grammar\nS : {kind}"), {"plain a": f"S({kind})"})
        self.check(desk_of("word : :", "word | ~|", "word # #", "grammar\nS : # a"), {"next ": "#"})

    def test_count(self):
        self.check(desk_of(*KINDS, LOOSE), {
            "count 1": "1", "count 1+2": "1", "count 1+2+3": "2", "count 1+2*3+4": "5", "count 1+": "0", "count ": "0",
            "count " + "+".join(["7"] * 20): "1767263190"})

    def test_clashes(self):
        for text, many in ((SUM, "0"), (LOOSE, "4"), (STRONG, "0"), (LOOSE + "\nleft +", "3"), (LOOSE + "\nnone + *", "0"),
                           ("grammar\nS : A | B\nA : a\nB : a", "1")):
            self.assertEqual(desk_of(text).say("clashes"), many)

    def test_next(self):
        self.check(desk_of(*KINDS, SUM), {
            "next ": "( num", "next 1": ". * +", "next 1+": "( num", "next (1": ") * +", "next (1)": ". * +", "next )": "",
            "next 1 1": ""})
        self.check(desk_of("word a a", "grammar\nS : a"), {"next ": "a", "next a": ".", "next aa": ""})
        self.check(desk_of("word a a", "word ~. ~.", "grammar\nS : S . | ! a |"), {"next ": ". ! ."})

    def test_mend(self):
        self.check(desk_of(*KINDS, SUM), {
            "mend 1 1 1 1+2": "0 num + num", "mend 5 1 5 1 2": "1 num", "mend 1 5 5 (1": "1 ( num )",
            "mend 9 9 1 (1+": "1 ( num )", "mend 3 1 1 ": "3 num", "mend 0 0 0 1": "0 num",
            "mend 10 1 10 1 2 3 4 5 6 7 8 9 10 11 12": "11 num"})
        self.check(desk_of("word a a", "grammar\nS :"), {"mend 1 2 3 aaa": "6", "mend 1 2 3 ": "0"})

    def test_mend_tells_the_row_that_is_told_of_the_grammar(self):
        desk = desk_of(*KINDS, LOOSE)
        grammar = read_grammar(LOOSE[8:])
        for prices in ((1, 1, 1), (3, 2, 1), (0, 0, 0), (0, 1, 2)):
            for text, row in (("1 2", ["num", "num"]), ("+*", ["+", "*"]), (")", [")"])):
                price, changes, tree = mended_row(grammar, row, prices)
                told = desk.say("mend {} {} {} ".format(*prices) + text).split(" ")
                self.assertEqual(told, [str(price)] + row_of(tree))
                self.assertEqual(price, min(plain_price(row, other, prices) for other in plain_rows(grammar.rules, 5)))

    def test_numbers(self):
        nines = "9" * 30
        self.check(desk_of("word a a", "grammar\nS : b b"), {
            f"mend {nines} 0 {nines} a": f"{2 * int(nines)} b b", f"mend 0 {nines} {nines} a": f"{nines} b b",
            f"mend {nines} {nines} {nines} ": f"{2 * int(nines)} b b", "mend 0 0 0 a": "0 b b",
            "mend 10 9 100000000000000000000000000000 a": "29 b b"})

    def test_a_grammar_told_anew(self):
        desk = desk_of(*KINDS, LOOSE)
        self.check(desk, {"clashes": "4", "count 1+2+3": "2"})
        self.refused(desk, "read 1", errors.Clash)
        self.check(desk, {SUM: "ok", "clashes": "0", "count 1+2+3": "1", "read 1": "E(T(F(num)))", "next 1": ". * +"})
        self.check(desk, {"grammar\nS : num": "ok", "read 1": "S(num)", "plain 1": "S(num)", "next 1": ".",
                          "mend 1 1 1 1+1": "2 num"})
        self.refused(desk, "read 1+2", errors.Refused, place=1)

    def test_grammars_texts(self):
        self.check(desk_of("word a a", "grammar\n\n# so\n S : a*\n\n"), {"read aa": "S(a*(a*(a*() a) a))"})

    def test_desks_are_apart(self):
        one, other = desk_of(*KINDS, SUM), Desk()
        self.refused(other, "next ", errors.NoDeed)
        other.say("grammar\nS : a")
        self.assertEqual((one.say("next "), other.say("next ")), ("( num", "a"))
        self.refused(other, "next 1", errors.NoWord, place=0)

    def test_the_same_each_time(self):
        desk = desk_of(*KINDS, SUM)
        for row in ("plain 1+2", "read 1+2", "count 1", "next 1", "clashes", "mend 1 1 1 +"):
            self.assertEqual(desk.say(row), desk.say(row))

    def test_plain_and_read_alike_where_no_clash_is_told(self):
        desk = desk_of(*KINDS, SUM)
        reader = Reader(read_grammar(SUM[8:]))
        self.assertEqual(desk.say("clashes"), "0")
        for many in range(6):
            for signs in itertools.product("1+*(", repeat=many):
                text = "".join(signs) + ")" * signs.count("(")
                answers = []
                for asked in ("plain", "read"):
                    try:
                        answers.append(desk.say(f"{asked} {text}"))
                    except errors.Refused as refused:
                        answers.append(refused.place)
                self.assertEqual(answers[0], answers[1])
                row = ["num" if one.isdigit() else one for one in text.replace("11", "1").replace("11", "1")]
                if "11" not in text:
                    self.assertEqual(isinstance(answers[0], str), count_trees(read_grammar(SUM[8:]), row) == 1)
                    if isinstance(answers[0], int):
                        self.assertEqual(answers[0], refusal_of(read_grammar(SUM[8:]), row)[0])
                    else:
                        self.assertEqual(row_of(reader.read(row)[1]), row)
                    told = goes_on(read_grammar(SUM[8:]), row)
                    self.assertEqual(desk.say(f"next {text}"), " ".join(word or "." for word in told))


class RefusalsTest(DeskTest):
    def test_rows_that_are_none_of_these(self):
        for desk in (Desk(), desk_of(*KINDS, SUM)):
            for row in ("", " ", "much", "word", "word ", "word a", "word  a", "word  ", "word   a", "words a b", " word a b",
                        "Word a b", "word " + "k" * 15 + " a", "grammar", "grammar ", "grammar S : a", "grammar \nS : a",
                        " grammar\nS : a", "grammars\nS : a", "\n", "plain", "read", "count", "next", "mend", "clashes ",
                        "clashes 1", " clashes", "clash", "plain\n1", " plain 1", "PLAIN 1", "plains 1", "mend ", "mend 1",
                        "mend 1 1", "mend 1 1 1", "mend  1 1 1 1", "mend 1  1 1 1", "mend 1 1  1 1", "mend a 1 1 1",
                        "mend 1 1 x 1", "mend -1 1 1 1", "mend +1 1 1 1", "mend 1_0 1 1 1", "mend 1.0 1 1 1", "done",
                        "tree 1", "word\na b"):
                self.refused(desk, row, errors.NoDeed)

    def test_what_is_no_text(self):
        for desk in (Desk(), desk_of(*KINDS, SUM)):
            for thing in (None, 0, 1, True, [], ["clashes"], ("plain 1",), {}, b"clashes", 1.5, object()):
                self.refused(desk, thing, errors.NoDeed)

    def test_rows_that_need_a_grammar(self):
        desk = desk_of(*KINDS)
        for row in ("plain 1", "read 1", "count 1", "next 1", "next ", "clashes", "mend 1 1 1 1", "plain ", "plain $",
                    "mend 1 1 1 $"):
            self.refused(desk, row, errors.NoDeed)
        # One that was refused is none.
        self.refused(desk, "grammar\nS : S", errors.Endless)
        self.refused(desk, "clashes", errors.NoDeed)

    def test_numbers(self):
        desk = desk_of("word a a", "grammar\nS : b")
        for number in ("00", "01", "007", "0" * 30, "1" * 31, "9" * 40, "", "a", "1e3", "0x1", " 1"):
            for row in (f"mend {number} 1 1 a", f"mend 1 {number} 1 a", f"mend 1 1 {number} a"):
                self.refused(desk, row, errors.NoDeed)
        self.check(desk, {"mend " + "1" * 30 + " 2 " + "1" * 30 + " a": "1" * 30 + " b", "mend 0 0 0 a": "0 b"})

    def test_a_mend_of_more_than_12_words(self):
        desk = desk_of("word a a", "word - ~ ", "grammar\nS : a | a S")
        self.check(desk, {"mend 1 1 1 " + "a" * 12: "0 " + " ".join("a" * 12),
                          "mend 1 1 1 " + " a " * 12: "0 " + " ".join("a" * 12)})
        for many in (13, 14, 40):
            self.refused(desk, "mend 1 1 1 " + "a" * many, errors.NoDeed)
        # It is not cut into words at all.
        self.refused(desk, "mend 1 1 1 " + "a" * 13 + "?", errors.NoWord, place=13)
        # The others have no such bound.
        self.assertEqual(desk.say("count " + "a" * 40), "1")

    def test_no_pattern(self):
        for desk in (Desk(), desk_of(*KINDS, SUM)):
            for pattern, place in (("a)", 1), ("(a", 2), ("a**", 2), ("[b-a]", 3), (" *|*", 3)):
                self.refused(desk, f"word k {pattern}", errors.NoPattern, place=place)
                # The kind is looked at ahead of the pattern.
                self.refused(desk, f"word {'k' * 15} {pattern}", errors.NoDeed)

    def test_no_word(self):
        desk = desk_of(*KINDS, SUM)
        for asked in ("plain", "read", "count", "next", "mend 1 1 1"):
            self.refused(desk, f"{asked} $", errors.NoWord, place=0)
            self.refused(desk, f"{asked} 1 + x", errors.NoWord, place=4)

    def test_refusals_of_grammars(self):
        for desk in (Desk(), desk_of(*KINDS, SUM)):
            self.refused(desk, "grammar\n", errors.NoRules)
            self.refused(desk, "grammar\n# so\n\n", errors.NoRules)
            self.refused(desk, "grammar\nS : a\nS = b", errors.NoRow, row=2)
            self.refused(desk, "grammar\n| a", errors.NoRow, row=1)
            self.refused(desk, "grammar\nS : a\nleft a\nright b a", errors.Twice, word="a")
            self.refused(desk, "grammar\nS : A\nA : A", errors.Endless, names=["S", "A"])
            self.refused(desk, "grammar\nS : a\nA : a", errors.Unmet, names=["A"])
            self.refused(desk, "grammar\nS : S | a", errors.Loop, steps=[(0, 0)])
            self.refused(desk, "grammar\nS : A A A A A A\nA : B B B B B B\nB : C C\nC : c", errors.Vast, names=["S"])

    def test_too_many(self):
        desk = desk_of("word - ~ ", "word x x", WIDE)
        self.refused(desk, "clashes", errors.TooMany)
        self.refused(desk, "read x", errors.TooMany)
        self.refused(desk, "read ", errors.TooMany)
        # A word that is not cut comes first; the others need no rooms.
        self.refused(desk, "read ?", errors.NoWord, place=0)
        self.refused(desk, "plain x", errors.Refused, place=0)
        self.assertEqual(desk.say("count x"), "0")
        # Of the deeds of a reading.
        text = "grammar\nS : S T | T\nT : A A A A x | y\nA : B B B B B B\nB : C C C C C C\nC :"
        desk = desk_of("word x x", text)
        self.refused(desk, "read " + "x" * 23, errors.TooMany)
        self.assertEqual(desk.say("read " + "x" * 22).count("x"), 22)

    def test_clash(self):
        desk = desk_of(*KINDS, LOOSE + "\nleft +")
        with self.assertRaises(errors.Clash) as wanted:
            Reader(read_grammar(LOOSE[8:] + "\nleft +"))
        for row in ("read 1", "read 1+", "read "):
            self.refused(desk, row, errors.Clash, clashes=wanted.exception.clashes)
        self.assertEqual(len(wanted.exception.clashes), 3)
        # A word that is not cut comes first.
        self.refused(desk, "read ?", errors.NoWord, place=0)
        self.assertEqual(desk.say("plain 1"), "E(num)")

    def test_told_clashes_are_the_askers_own(self):
        desk = desk_of(*KINDS, LOOSE)
        for _ in range(2):
            with self.assertRaises(errors.Clash) as caught:
                desk.say("read 1")
            self.assertEqual([len(clash[2]) for clash in caught.exception.clashes], [2] * 4)
            for clash in caught.exception.clashes:
                clash[2].clear()
            caught.exception.clashes.clear()

    def test_rooms_are_not_joined(self):
        text = "grammar\nS : a A d | b B d | a B e | b A e\nA : c\nB : c"
        desk = desk_of(*[f"word {sign} {sign}" for sign in "abcde"], text)
        with self.assertRaises(errors.Clash):
            Reader(read_grammar(text[8:]), True)
        self.check(desk, {"clashes": "0", "read acd": "S(a A(c) d)", "read bce": "S(b A(c) e)"})

    def test_refused(self):
        for asked in ("plain", "read"):
            desk = desk_of(*KINDS, SUM)
            for text, place in (("", 0), ("+", 0), ("1 1", 1), ("1+", 2), ("(1", 2), ("1+(2*)", 5), ("()", 1)):
                self.refused(desk, f"{asked} {text}", errors.Refused, place=place)

    def test_what_is_refused_changes_nothing(self):
        desk = desk_of(*KINDS, SUM)
        asked = {"plain 1+2": "E(E(T(F(num))) + T(F(num)))", "read 1": "E(T(F(num)))", "next 1": ". * +", "clashes": "0",
                 "count (1)": "1", "mend 1 1 1 1": "0 num"}
        self.check(desk, asked)
        for row in ("", "word z", "word zz [", "word " + "k" * 15 + " z", "grammar", "grammar\n", "grammar\nS : a |\nS",
                    "grammar\nS : S", "grammar\nS : a\nA : b", "plain z", "read +", "mend 1 1 1 z", "mend 01 1 1 1", "next z",
                    "count z", "mend 1 1 1 " + "1 " * 13, None):
            self.assertRaises(errors.WrightError, desk.say, row)
            self.refused(desk, "count z", errors.NoWord, place=0)
            self.check(desk, asked)


class CutTest(DeskTest):
    def test_the_cutters_words(self):
        desk = desk_of(*KINDS, SUM)
        cutter = Cutter([(row.split(" ", 2)[1], read_pattern(row.split(" ", 2)[2])) for row in KINDS])
        for text in ("1 + 2", "((12)) * 3", "  "):
            self.assertEqual([word for kind, word in cutter.cut(text)],
                             [word for word in text.replace("(", "( ").replace(")", " )").split(" ") if word])
            words = [kind if kind == "num" else word for kind, word in cutter.cut(text)]
            self.assertEqual(desk.say(f"next {text}"),
                             " ".join(word or "." for word in goes_on(read_grammar(SUM[8:]), words)))


class SoonTest(DeskTest):
    def test_the_longest_texts(self):
        # 40 words of 50 signs each.
        desk = desk_of("word num [0-9]+", "word - ~ +", "word op [+*]", STRONG)
        text = (" " * 25 + "7" * 25 + "+" + " " * 49) * 19 + "7" * 51
        self.assertLessEqual(len(text), 2000)
        with Soon(self, 8):
            self.assertEqual(desk.say(f"count {text}"), "1767263190")
            self.assertEqual(desk.say(f"read {text}").count("num"), 20)
            self.assertEqual(desk.say(f"plain {text}").count("num"), 20)
            self.assertEqual(desk.say(f"next {text}"), ". * +")

    def test_the_longest_grammars(self):
        rows = [f"N{at} : " + " ".join(f"N{(at + step) % 12}" for step in range(1, 7)) + f" | a w{at}" for at in range(12)]
        desk = desk_of("word a a", "word w3 b", "word - ~ ", "grammar\n" + "\n".join(rows))
        with Soon(self, 30):
            self.refused(desk, "plain " + "ab" * 20, errors.Refused, place=40)
            self.assertEqual(desk.say("next " + "ab" * 20), "a")
            self.assertEqual(desk.say("mend 1 1 1 abababababab").split(" ")[0], "5")
            with self.assertRaises(errors.Clash) as caught:
                desk.say("read a")
            self.assertEqual(desk.say("clashes"), str(len(caught.exception.clashes)))

    def test_many_kinds(self):
        desk = Desk()
        for at in range(40):
            desk.say(f"word k{at} " + "(a|b)*" * at + "c")
        desk.say("grammar\nS : k1 | k39 | S S")
        with Soon(self, 8):
            self.assertEqual(desk.say("count " + ("ab" * 24 + "c") * 40), "680425371729975800390")


if __name__ == "__main__":
    unittest.main()
