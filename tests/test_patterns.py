"""Points 4, 6 and 7: the texts of a pattern, what is left of it, its longest word."""

import unittest

from tests.helpers import EMPTY, NONE, again, all_texts, chance_patterns, chance_text, either, sign, texts_of, then
from wright.pattern_walks import Walk
from wright.patterns import can_be_empty, has_text, left_of, longest

A = sign("a")
B = sign("b")
SHORT = all_texts("abc", 5)
PATTERNS = [
    NONE,
    EMPTY,
    A,
    sign("a", "b"),
    sign("b", "c"),
    then(A, B),
    then(then(A, B), sign("c")),
    then(A, then(B, sign("c"))),
    then(A, NONE),
    then(NONE, A),
    then(EMPTY, A),
    then(A, EMPTY),
    then(NONE, again(A)),
    either(A, B),
    either(NONE, NONE),
    either(NONE, EMPTY),
    either(then(A, B), A),
    either(A, again(A)),
    again(NONE),
    again(EMPTY),
    again(A),
    again(again(A)),
    again(again(again(then(A, B)))),
    again(either(A, EMPTY)),
    again(then(again(A), again(B))),
    again(then(again(A), B)),
    again(either(again(either(again(A), B)), sign("c"))),
    again(then(either(A, EMPTY), either(B, EMPTY))),
    then(again(A), A),
    then(again(A), again(A)),
    then(again(either(A, B)), then(A, sign("a", "b"))),
    then(either(A, EMPTY), then(either(A, EMPTY), then(A, A))),
    then(then(again(A), again(B)), again(sign("c"))),
    either(then(A, then(B, again(A))), then(sign("c"), then(B, again(A)))),
    again(then(A, again(then(B, again(sign("c")))))),
    then(again(then(A, NONE)), B),
]


class TextsTest(unittest.TestCase):
    def hold(self, pattern):
        texts = texts_of(pattern, "abc", 5)
        for text in SHORT:
            self.assertIs(has_text(pattern, text), text in texts, (pattern, text))
        self.assertIs(can_be_empty(pattern), "" in texts, pattern)

    def test_each_form_and_forms_within_one_another(self):
        for pattern in PATTERNS:
            self.hold(pattern)

    def test_chance_patterns(self):
        for pattern in chance_patterns(4, 150, 14, "abc"):
            self.hold(pattern)

    def test_none_has_no_text(self):
        self.assertIs(has_text(NONE, ""), False)
        self.assertIs(has_text(NONE, "a"), False)
        self.assertIs(can_be_empty(NONE), False)

    def test_empty_has_the_text_without_signs_alone(self):
        self.assertIs(has_text(EMPTY, ""), True)
        self.assertIs(has_text(EMPTY, " "), False)
        self.assertIs(can_be_empty(EMPTY), True)

    def test_the_ends_of_a_range_and_just_outside(self):
        digits = sign("0", "9")
        for text, answer in (("0", True), ("9", True), ("5", True), ("/", False), (":", False), ("", False)):
            self.assertIs(has_text(digits, text), answer, text)
        self.assertIs(has_text(digits, "00"), False)
        self.assertIs(can_be_empty(digits), False)

    def test_the_first_and_the_last_sign(self):
        every = sign(" ", "~")
        self.assertIs(has_text(every, " "), True)
        self.assertIs(has_text(every, "~"), True)
        self.assertIs(has_text(sign(" "), "!"), False)
        self.assertIs(has_text(sign("~"), "}"), False)

    def test_signs_come_in_the_order_of_texts(self):
        upper_to_lower = sign("Z", "a")
        self.assertIs(has_text(upper_to_lower, "_"), True)
        self.assertIs(has_text(upper_to_lower, "A"), False)
        self.assertIs(has_text(upper_to_lower, "b"), False)

    def test_again_of_what_can_be_empty(self):
        for pattern in (again(EMPTY), again(NONE), again(again(EMPTY)), again(either(EMPTY, NONE))):
            self.assertIs(can_be_empty(pattern), True)
            self.assertIs(has_text(pattern, "a"), False)
        for pattern in (again(again(A)), again(either(A, EMPTY)), again(then(again(A), again(A)))):
            self.assertIs(can_be_empty(pattern), True)
            self.assertIs(has_text(pattern, "aaa"), True)
            self.assertIs(has_text(pattern, "aab"), False)


class RestsTest(unittest.TestCase):
    def hold_one_sign(self, pattern):
        texts = texts_of(pattern, "abc", 5)
        for c in "abcd":
            rest = left_of(pattern, c)
            wanted = {text[1:] for text in texts if text[:1] == c}
            self.assertEqual(texts_of(rest, "abc", 4), wanted, (pattern, c))

    def test_the_rest_has_just_the_texts_with_the_sign_ahead(self):
        for pattern in PATTERNS:
            self.hold_one_sign(pattern)

    def test_chance_patterns(self):
        for pattern in chance_patterns(6, 150, 14, "abc"):
            self.hold_one_sign(pattern)

    def test_sign_after_sign_to_the_end_of_the_text(self):
        for pattern in PATTERNS + chance_patterns(7, 25, 30, "abc"):
            for text in all_texts("abc", 3) + [chance_text(1, 12, "abc"), "a" * 12]:
                rest = pattern
                for place, c in enumerate(text):
                    self.assertIs(has_text(rest, text[place:]), has_text(pattern, text), (pattern, text, place))
                    rest = left_of(rest, c)
                self.assertIs(can_be_empty(rest), has_text(pattern, text), (pattern, text))
                self.assertEqual(longest(rest, "", 0), 0 if has_text(pattern, text) else -1)

    def test_nothing_is_left_by_a_sign_that_begins_no_text(self):
        for pattern in (NONE, EMPTY, A, then(A, B), again(A), then(B, NONE)):
            rest = left_of(pattern, "b")
            for text in SHORT:
                self.assertIs(has_text(rest, text), False, (pattern, text))

    def test_the_ends_of_a_range(self):
        for c, answer in (("a", False), ("b", True), ("d", True), ("e", False)):
            self.assertIs(can_be_empty(left_of(sign("b", "d"), c)), answer, c)


class LongestTest(unittest.TestCase):
    def hold(self, pattern, text):
        for at in range(len(text) + 1):
            fit = [many for many in range(len(text) - at + 1) if has_text(pattern, text[at:at + many])]
            found = longest(pattern, text, at)
            self.assertEqual(found, max(fit, default=-1), (pattern, text, at))
            self.assertIs(type(found), int)

    def test_at_each_place(self):
        for pattern in PATTERNS + chance_patterns(8, 60, 14, "abc"):
            for text in ("", "a", "abcab", "aabbcc", "cba", chance_text(3, 9, "abc")):
                self.hold(pattern, text)

    def test_places_of_one_text_in_any_order(self):
        for pattern in PATTERNS + chance_patterns(9, 40, 14, "abc"):
            for text in ("aabaab", "abcabc", chance_text(5, 9, "abc")):
                places = list(range(len(text) + 1))
                for order in (places, places[::-1], places[::2] + places[1::2]):
                    walk = Walk(pattern)
                    spent = {}
                    for at in order:
                        self.assertEqual(walk.longest_word(text, at, spent), longest(pattern, text, at))

    def test_at_the_end(self):
        self.assertEqual(longest(again(A), "aa", 2), 0)
        self.assertEqual(longest(A, "aa", 2), -1)
        self.assertEqual(longest(NONE, "", 0), -1)

    def test_nought_where_only_the_text_without_signs_is_there(self):
        self.assertEqual(longest(again(A), "ba", 0), 0)
        self.assertEqual(longest(EMPTY, "ba", 1), 0)

    def test_none_is_not_nought(self):
        self.assertEqual(longest(A, "ba", 0), -1)
        self.assertEqual(longest(then(A, B), "aab", 0), -1)
        self.assertEqual(longest(NONE, "ab", 1), -1)

    def test_a_longer_word_behind_a_gap(self):
        pattern = either(A, then(A, then(A, B)))
        self.assertEqual(longest(pattern, "aab", 0), 3)
        self.assertEqual(longest(pattern, "aaa", 0), 1)
        self.assertEqual(longest(pattern, "aa", 0), 1)


if __name__ == "__main__":
    unittest.main()
