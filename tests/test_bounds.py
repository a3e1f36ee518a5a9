"""Point 2: texts of 2,000 signs and patterns of 200 parts are answered soon, and always alike."""

import unittest

from tests.helpers import Soon, again, chance_patterns, chance_text, count_parts, deep_patterns, either, sign, then
from wright.cutting import Cutter
from wright.pattern_texts import read_pattern
from wright.patterns import can_be_empty, has_text, left_of, longest

TEXTS = ["a" * 2000, "abc" * 666 + "ab", chance_text(1, 2000, "ab"), chance_text(2, 2000, "abc")]


class SoonTest(unittest.TestCase):
    def test_deep_patterns_have_about_200_parts(self):
        for name, pattern in deep_patterns().items():
            self.assertIn(count_parts(pattern), range(190, 201), name)

    def test_texts_of_2000_signs(self):
        for name, pattern in deep_patterns().items():
            for text in TEXTS:
                with self.subTest(name), Soon(self, 5):
                    found = longest(pattern, text, 0)
                    self.assertIs(has_text(pattern, text), found == 2000)
                    self.assertIs(can_be_empty(pattern), has_text(pattern, ""))

    def test_sign_after_sign(self):
        for name, pattern in deep_patterns().items():
            for text in TEXTS:
                with self.subTest(name), Soon(self, 30):
                    rest = pattern
                    for c in text:
                        rest = left_of(rest, c)
                    self.assertIs(can_be_empty(rest), has_text(pattern, text))
                    self.assertLess(count_parts(rest), 20000)

    def test_at_each_place(self):
        for name, pattern in deep_patterns().items():
            text = TEXTS[2]
            with self.subTest(name), Soon(self, 30):
                sizes = [longest(pattern, text, at) for at in range(0, 2001, 10)]
                self.assertEqual(sizes[-1], 0 if can_be_empty(pattern) else -1)

    def test_known_answers(self):
        deep = deep_patterns()
        self.assertIs(has_text(deep["again"], "a" * 2000), True)
        self.assertIs(has_text(deep["again"], "a" * 1999 + "b"), False)
        self.assertEqual(longest(deep["perhaps, left"], "a" * 2000, 3), 50)
        self.assertEqual(longest(deep["perhaps, right"], "a" * 2000, 1970), 30)
        self.assertIs(has_text(deep["then, left"], "b" * 1902 + "a" + "b" * 97), True)
        self.assertIs(has_text(deep["then, left"], "b" * 1901 + "a" + "b" * 98), False)
        self.assertIs(has_text(deep["or, left"], "abc" * 666), True)

    def test_wide_chance_patterns(self):
        for pattern in chance_patterns(11, 20, 200, "abc"):
            with Soon(self, 20):
                rest = pattern
                for c in TEXTS[3][:300]:
                    rest = left_of(rest, c)
                self.assertIs(can_be_empty(rest), has_text(pattern, TEXTS[3][:300]))

    def test_cutting(self):
        deep = deep_patterns()
        with Soon(self, 20):
            for text in TEXTS:
                one = Cutter(list(deep.items()) + [("one", sign("a", "c"))])
                self.assertEqual("".join(word for kind, word in one.cut(text)), text)

    def test_cutting_where_each_place_is_looked_at_to_the_end(self):
        kinds = [("long", then(again(sign("a")), sign(c))) for c in "bcdefghijklmnopqrstuvwxyz"]
        with Soon(self, 5):
            self.assertEqual(Cutter(kinds + [("x", sign("a"))]).cut("a" * 2000), [("x", "a")] * 2000)

    def test_a_written_pattern_of_2000_signs(self):
        text = "(" * 20 + "a" * 1960 + ")" * 20
        with Soon(self, 5):
            pattern = read_pattern(text)
            self.assertIs(has_text(pattern, "a" * 1960), True)
            self.assertIs(has_text(pattern, "a" * 1959), False)


class AlikeTest(unittest.TestCase):
    def test_asked_again_the_answer_is_the_same(self):
        for pattern in chance_patterns(12, 40, 40, "abc"):
            self.assertEqual(left_of(pattern, "a"), left_of(pattern, "a"))
        self.assertEqual(read_pattern("(a|b)*c"), read_pattern("(a|b)*c"))

    def test_like_patterns_that_are_not_the_same_object(self):
        one = then(again(either(sign("a"), sign("b"))), sign("c"))
        other = read_pattern("[ab]*c")
        self.assertEqual(left_of(one, "a"), left_of(other, "a"))


if __name__ == "__main__":
    unittest.main()
