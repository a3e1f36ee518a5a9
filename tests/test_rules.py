"""Point 9: names, words and numbers of a list of rules."""

import unittest

from wright.rules import heads_of, numbers_of, words_in

RULES = [("S", ("b", "T", "a")), ("T", ()), ("S", ("a", "U", "b", "c")), ("U", ("T", "S")), ("T", ("c", "d", "T"))]


class RulesTest(unittest.TestCase):
    def test_heads_in_the_order_in_which_they_are_first_heads(self):
        self.assertEqual(heads_of(RULES), ["S", "T", "U"])
        self.assertEqual(heads_of([("b", ("a",)), ("a", ()), ("b", ())]), ["b", "a"])

    def test_words_in_the_order_in_which_they_first_stand_as_parts(self):
        self.assertEqual(words_in(RULES), ["b", "a", "c", "d"])

    def test_a_part_that_is_a_head_further_on_is_no_word(self):
        self.assertEqual(words_in([("S", ("x", "T", "y")), ("T", ("y",))]), ["x", "y"])

    def test_numbers_rise_from_nought(self):
        self.assertEqual(numbers_of(RULES, "S"), [0, 2])
        self.assertEqual(numbers_of(RULES, "T"), [1, 4])
        self.assertEqual(numbers_of(RULES, "U"), [3])

    def test_what_is_no_head_has_no_numbers(self):
        self.assertEqual(numbers_of(RULES, "a"), [])
        self.assertEqual(numbers_of(RULES, "nowhere"), [])
        self.assertEqual(numbers_of([], "S"), [])

    def test_like_rules_are_numbered_each(self):
        self.assertEqual(numbers_of([("S", ("a",)), ("S", ("a",))], "S"), [0, 1])

    def test_no_rules_and_rules_without_parts(self):
        self.assertEqual(heads_of([]), [])
        self.assertEqual(words_in([]), [])
        self.assertEqual(words_in([("S", ())]), [])

    def test_told_lists_are_the_askers_own(self):
        for ask in (heads_of, words_in, lambda rules: numbers_of(rules, "S")):
            told = ask(RULES)
            kept = list(told)
            told.append("more")
            told.reverse()
            self.assertEqual(ask(RULES), kept)

    def test_the_rules_stay_as_they_were(self):
        handed = list(RULES)
        heads_of(handed), words_in(handed), numbers_of(handed, "S")
        self.assertEqual(handed, RULES)


if __name__ == "__main__":
    unittest.main()
