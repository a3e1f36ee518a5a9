"""Points 8 and 3: the cutter and its words."""

import unittest

from tests.helpers import EMPTY, NONE, again, chance_patterns, chance_text, sign, then
from wright.cutting import Cutter
from wright.errors import NoWord
from wright.pattern_texts import read_pattern
from wright.patterns import longest


def cutter(*kinds):
    return Cutter([(kind, read_pattern(text)) for kind, text in kinds])


def plain_cut(kinds, text):
    """The words by the words of point 8, or the place of the refusal; with those passed by."""
    words = []
    place = 0
    while place < len(text):
        sizes = [longest(pattern, text, place) for kind, pattern in kinds]
        most = max(sizes, default=0)
        if most < 1:
            return place
        words.append((kinds[sizes.index(most)][0], text[place:place + most]))
        place += most
    return words


class CutTest(unittest.TestCase):
    def refused_at(self, one, text):
        with self.assertRaises(NoWord) as caught:
            one.cut(text)
        return caught.exception.place

    def test_words_and_blanks(self):
        one = cutter(("name", "[a-z]+"), ("number", "[0-9]+"), ("-", " +"), ("sum", "~+"))
        self.assertEqual(one.cut("ab + 12 +c"), [("name", "ab"), ("sum", "+"), ("number", "12"), ("sum", "+"),
                                                  ("name", "c")])
        self.assertEqual(one.cut("   "), [])
        self.assertEqual(one.cut(""), [])

    def test_the_longest_word_is_taken(self):
        one = cutter(("one", "="), ("two", "=="), ("three", "==="))
        self.assertEqual(one.cut("====="), [("three", "==="), ("two", "==")])
        self.assertEqual(one.cut("===="), [("three", "==="), ("one", "=")])

    def test_a_longer_word_behind_a_gap(self):
        one = cutter(("a", "a"), ("long", "a*b"))
        self.assertEqual(one.cut("aaba"), [("long", "aab"), ("a", "a")])
        self.assertEqual(one.cut("aaa"), [("a", "a")] * 3)

    def test_the_first_of_equally_long_ones(self):
        self.assertEqual(cutter(("if", "if"), ("name", "[a-z]+")).cut("if"), [("if", "if")])
        self.assertEqual(cutter(("name", "[a-z]+"), ("if", "if")).cut("if"), [("name", "if")])
        self.assertEqual(cutter(("if", "if"), ("name", "[a-z]+")).cut("iff"), [("name", "iff")])

    def test_words_passed_by(self):
        self.assertEqual(cutter(("-", "a"), ("x", "a")).cut("aa"), [])
        self.assertEqual(cutter(("x", "a"), ("-", "a")).cut("aa"), [("x", "a"), ("x", "a")])
        self.assertEqual(cutter(("-", "a+"), ("x", "a|b")).cut("aab"), [("x", "b")])
        self.assertEqual(cutter(("--", "a")).cut("a"), [("--", "a")])

    def test_kinds_alike(self):
        one = cutter(("x", "a"), ("y", "b"), ("x", "bb|c"))
        self.assertEqual(one.cut("abbcb"), [("x", "a"), ("x", "bb"), ("x", "c"), ("y", "b")])

    def test_no_kinds(self):
        self.assertEqual(Cutter([]).cut(""), [])
        self.assertEqual(self.refused_at(Cutter([]), "a"), 0)

    def test_words_of_no_signs_are_not_taken(self):
        self.assertEqual(self.refused_at(cutter(("x", "a*")), "aab"), 2)
        self.assertEqual(self.refused_at(cutter(("x", ""), ("y", "()*")), "a"), 0)
        self.assertEqual(cutter(("x", "a*"), ("y", "b")).cut("aab"), [("x", "aa"), ("y", "b")])
        self.assertEqual(Cutter([("x", EMPTY), ("y", NONE)]).cut(""), [])

    def test_refused_with_the_place(self):
        one = cutter(("x", "ab"), ("-", " "))
        self.assertEqual(self.refused_at(one, "b"), 0)
        self.assertEqual(self.refused_at(one, "ab abb"), 5)
        self.assertEqual(self.refused_at(one, "ab a"), 3)
        self.assertEqual(one.cut("ab ab"), [("x", "ab"), ("x", "ab")])

    def test_chance_kinds(self):
        for seed in range(60):
            patterns = chance_patterns(seed, 4, 12, "abc")
            kinds = list(zip(("x", "-", "y", "x"), patterns))
            text = chance_text(seed, 30, "abc" if seed % 2 else "aab")
            wanted = plain_cut(kinds, text)
            if isinstance(wanted, int):
                self.assertEqual(self.refused_at(Cutter(kinds), text), wanted)
            else:
                self.assertEqual("".join(word for kind, word in wanted), text)
                self.assertEqual(Cutter(kinds).cut(text), [word for word in wanted if word[0] != "-"])


class OwnListsTest(unittest.TestCase):
    def test_the_list_handed_in_is_copied_and_left_as_it_was(self):
        kinds = [("x", sign("a")), ("-", sign(" "))]
        one = Cutter(kinds)
        self.assertEqual(one.cut("a a"), [("x", "a"), ("x", "a")])
        self.assertEqual(kinds, [("x", sign("a")), ("-", sign(" "))])
        kinds[0] = ("y", sign("b"))
        kinds.clear()
        self.assertEqual(one.cut("a a"), [("x", "a"), ("x", "a")])

    def test_told_lists_are_the_askers_own(self):
        one = Cutter([("x", then(sign("a"), again(sign("b"))))])
        told = one.cut("abba")
        told.append("more")
        other = one.cut("abba")
        self.assertEqual(other, [("x", "abb"), ("x", "a")])
        one.cut("a")
        self.assertEqual(other, [("x", "abb"), ("x", "a")])

    def test_two_cutters_know_nothing_of_one_another(self):
        one = Cutter([("x", sign("a"))])
        other = Cutter([("y", sign("a"))])
        self.assertEqual(one.cut("a") + other.cut("a"), [("x", "a"), ("y", "a")])


if __name__ == "__main__":
    unittest.main()
