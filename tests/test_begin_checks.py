"""Point 16: the checkers of empties and begins, asked with rows told by anybody."""

import random
import unittest

from tests.helpers import chance_rule_lists
from wright.begin_checks import begins_lack, begins_stand, empties_lack, empties_stand

#          0               1          2                 3            4          5
EMPTY = [("S", ("A", "B")), ("A", ()), ("B", ("A", "A")), ("B", ("b",)), ("S", ("s",)), ("C", ("C",))]
#          0                    1               2          3          4               5
BEGIN = [("S", ("E", "T", "x")), ("T", ("T", "y")), ("T", ("t",)), ("E", ()), ("E", ("e", "S")), ("T", ("E", "E"))]


class EmptiesStandTest(unittest.TestCase):
    def stand(self, told):
        answer = empties_stand(EMPTY, told)
        self.assertIs(answer, bool(answer))
        return answer

    def test_those_that_stand(self):
        for told in ([], [("A", 1)], [("A", 1), ("B", 2)], [("A", 1), ("B", 2), ("S", 0)]):
            self.assertTrue(self.stand(told), told)

    def test_numbers_that_are_no_rules(self):
        self.assertFalse(self.stand([("C", -1)]))
        self.assertFalse(self.stand([("A", -5)]))
        self.assertFalse(self.stand([("A", 6)]))
        self.assertFalse(self.stand([("A", 10 ** 40)]))
        self.assertFalse(empties_stand([("A", ())], [("A", -1)]))
        self.assertFalse(empties_stand([], [("A", 0)]))
        self.assertTrue(empties_stand([], []))

    def test_truths_and_texts_are_no_rules_numbers(self):
        self.assertFalse(self.stand([("A", True)]))
        self.assertFalse(empties_stand([("A", ())], [("A", False)]))
        self.assertFalse(self.stand([(1, "A")]))

    def test_a_head_that_is_another(self):
        self.assertFalse(self.stand([("B", 1)]))
        self.assertFalse(self.stand([("nowhere", 1)]))
        self.assertFalse(self.stand([("A", 1), ("S", 2)]))

    def test_parts_that_were_not_told_ahead(self):
        self.assertFalse(self.stand([("B", 2)]))
        self.assertFalse(self.stand([("B", 2), ("A", 1)]))
        self.assertFalse(self.stand([("A", 1), ("S", 0)]))
        self.assertFalse(self.stand([("A", 1), ("S", 0), ("B", 2)]))

    def test_a_name_by_itself(self):
        self.assertFalse(self.stand([("C", 5)]))

    def test_words(self):
        self.assertFalse(self.stand([("B", 3)]))
        self.assertFalse(self.stand([("b", 3)]))
        self.assertFalse(self.stand([("A", 1), ("S", 4)]))

    def test_a_name_twice(self):
        self.assertFalse(self.stand([("A", 1), ("A", 1)]))
        self.assertFalse(self.stand([("A", 1), ("B", 2), ("A", 1)]))
        self.assertFalse(empties_stand([("A", ()), ("A", ())], [("A", 0), ("A", 1)]))

    def test_the_last_one_is_asked_too(self):
        self.assertFalse(self.stand([("A", 1), ("B", 2), ("S", 0), ("C", 0)]))


class EmptiesLackTest(unittest.TestCase):
    def test_the_first_rule_that_lacks(self):
        self.assertEqual(empties_lack(EMPTY, []), 1)
        self.assertEqual(empties_lack(EMPTY, ["A"]), 2)
        self.assertEqual(empties_lack(EMPTY, ["A", "B"]), 0)
        self.assertEqual(empties_lack(EMPTY, ["B", "A", "C"]), 0)
        self.assertEqual(empties_lack([("S", ("A",)), ("A", ()), ("B", ())], []), 1)

    def test_none_lacks(self):
        self.assertIsNone(empties_lack(EMPTY, ["A", "B", "S"]))
        self.assertIsNone(empties_lack(EMPTY, ["S", "S", "B", "A", "C", "A"]))
        self.assertIsNone(empties_lack([("S", ("a",))], []))
        self.assertIsNone(empties_lack([], ["S"]))

    def test_nought_is_no_none(self):
        self.assertEqual(empties_lack([("S", ())], []), 0)
        self.assertIsNotNone(empties_lack([("S", ())], []))

    def test_a_told_word_is_in_the_list_too(self):
        self.assertEqual(empties_lack([("S", ("a", "b"))], ["a", "b"]), 0)
        self.assertIsNone(empties_lack([("S", ("a", "b"))], ["a"]))
        self.assertEqual(empties_lack(EMPTY, ["A", "b", "S"]), 2)
        self.assertEqual(empties_lack(EMPTY, ["b", "A", "B", "s"]), 0)


class BeginsStandTest(unittest.TestCase):
    def stand(self, told, names=("E", "T")):
        answer = begins_stand(BEGIN, list(names), told)
        self.assertIs(answer, bool(answer))
        return answer

    def test_those_that_stand(self):
        told = [("T", "t", 2, 0), ("E", "e", 4, 0), ("S", "t", 0, 1), ("S", "x", 0, 2), ("T", "y", 1, 1),
                ("T", "e", 5, 1), ("S", "e", 0, 0), ("S", "y", 0, 1)]
        for many in range(len(told) + 1):
            self.assertTrue(self.stand(told[:many]), told[:many])

    def test_numbers_that_are_no_rules(self):
        self.assertTrue(self.stand([("T", "t", 2, 0)]))
        self.assertFalse(self.stand([("T", "t", -4, 0)]))
        self.assertFalse(self.stand([("T", "t", 6, 0)]))
        self.assertFalse(begins_stand([("T", ("t",))], [], [("T", "t", -1, 0)]))
        self.assertFalse(begins_stand([("T", ("t",))], [], [("T", "t", 1, 0)]))
        self.assertFalse(begins_stand([], [], [("T", "t", 0, 0)]))

    def test_truths_and_texts_are_no_numbers(self):
        self.assertFalse(self.stand([("T", "t", 2, False)]))
        self.assertFalse(self.stand([("T", "y", True, 1)]))
        self.assertFalse(self.stand([("T", 2, "t", 0)]))
        self.assertFalse(self.stand([("T", 0, 2, "t")]))

    def test_places_that_are_none_of_the_rules(self):
        self.assertFalse(self.stand([("T", "t", 2, -1)]))
        self.assertFalse(self.stand([("T", "t", 2, 1)]))
        self.assertFalse(self.stand([("S", "x", 0, -1)]))
        self.assertFalse(self.stand([("S", "x", 0, 3)]))
        self.assertFalse(self.stand([("E", "e", 3, 0)]))

    def test_a_head_that_is_another(self):
        self.assertFalse(self.stand([("S", "t", 2, 0)]))
        self.assertFalse(self.stand([("nowhere", "t", 2, 0)]))

    def test_parts_ahead_that_are_not_in_the_list(self):
        self.assertFalse(self.stand([("S", "x", 0, 2)], ["E"]))
        self.assertFalse(self.stand([("S", "x", 0, 2)], ["T"]))
        self.assertFalse(self.stand([("T", "y", 1, 1)], ["E"]))
        self.assertFalse(self.stand([("T", "y", 1, 1)], []))
        self.assertTrue(self.stand([("T", "y", 1, 1)], ["T"]))

    def test_the_part_itself_need_not_be_in_the_list(self):
        self.assertTrue(self.stand([("T", "t", 2, 0), ("S", "t", 0, 1)], ["E"]))

    def test_whatever_is_in_the_list_counts(self):
        self.assertFalse(self.stand([("E", "S", 4, 1)], ["e"]))
        self.assertTrue(self.stand([("E", "e", 4, 0), ("S", "e", 0, 0)], ["e"]))
        self.assertTrue(begins_stand([("S", ("a", "b"))], ["a"], [("S", "b", 0, 1)]))

    def test_parts_that_were_not_told_ahead(self):
        self.assertFalse(self.stand([("S", "t", 0, 1)]))
        self.assertFalse(self.stand([("S", "t", 0, 1), ("T", "t", 2, 0)]))
        self.assertFalse(self.stand([("T", "t", 2, 0), ("S", "y", 0, 1)]))
        self.assertFalse(self.stand([("T", "t", 1, 0)]))
        self.assertFalse(self.stand([("T", "t", 1, 0), ("T", "t", 2, 0)]))

    def test_another_word_than_the_part(self):
        self.assertFalse(self.stand([("T", "y", 2, 0)]))
        self.assertFalse(self.stand([("T", "", 2, 0)]))
        self.assertFalse(self.stand([("T", "nowhere", 2, 0)]))

    def test_a_word_that_is_a_head(self):
        self.assertFalse(self.stand([("S", "E", 0, 0)]))
        self.assertFalse(self.stand([("S", "T", 0, 1)]))
        self.assertFalse(self.stand([("T", "T", 1, 0)]))

    def test_a_name_and_word_twice(self):
        self.assertFalse(self.stand([("T", "t", 2, 0), ("T", "t", 2, 0)]))
        self.assertFalse(self.stand([("T", "t", 2, 0), ("E", "e", 4, 0), ("T", "t", 1, 0)]))
        self.assertTrue(self.stand([("T", "t", 2, 0), ("T", "y", 1, 1), ("S", "t", 0, 1)]))

    def test_a_list_of_names_told_twice(self):
        self.assertTrue(self.stand([("S", "x", 0, 2)], ["T", "E", "T", "nowhere"]))


class BeginsLackTest(unittest.TestCase):
    WHOLE = [("S", "e"), ("S", "t"), ("S", "x"), ("S", "y"), ("T", "t"), ("T", "y"), ("T", "e"), ("E", "e")]

    def lack(self, pairs, names=("E", "T")):
        return begins_lack(BEGIN, list(names), pairs)

    def without(self, pair):
        return [one for one in self.WHOLE if one != pair]

    def test_none_lacks(self):
        self.assertIsNone(self.lack(self.WHOLE))
        self.assertIsNone(self.lack(self.WHOLE[::-1] + self.WHOLE))
        self.assertIsNone(begins_lack([], [], []))
        self.assertIsNone(begins_lack([("S", ())], ["S"], []))
        self.assertIsNone(begins_lack([("S", ("S",))], ["S"], []))

    def test_a_word(self):
        self.assertEqual(self.lack(self.without(("S", "x"))), (0, 2, "x"))
        self.assertEqual(self.lack([]), (0, 2, "x"))
        self.assertEqual(begins_lack([("S", ("a",))], [], []), (0, 0, "a"))
        self.assertEqual(begins_lack([("S", ("a",))], [], [("S", "b"), ("T", "a"), ("a", "a")]), (0, 0, "a"))

    def test_a_name(self):
        self.assertEqual(self.lack(self.without(("S", "e"))), (0, 0, "e"))
        self.assertEqual(self.lack(self.without(("S", "y"))), (0, 1, "y"))
        self.assertEqual(self.lack(self.without(("S", "t"))), (0, 1, "t"))
        self.assertEqual(self.lack(self.without(("T", "e"))), (5, 0, "e"))

    def test_behind_parts_that_are_not_in_the_list(self):
        self.assertIsNone(self.lack(self.without(("S", "x")), ["E"]))
        self.assertIsNone(self.lack(self.without(("S", "x")), []))
        self.assertEqual(self.lack(self.without(("S", "x")), ["T", "E", "S"]), (0, 2, "x"))
        self.assertIsNone(begins_lack([("S", ("a", "b"))], [], [("S", "a")]))

    def test_behind_words_that_are_in_the_list(self):
        self.assertEqual(begins_lack([("S", ("a", "b"))], ["a"], [("S", "a")]), (0, 1, "b"))

    def test_the_first_rule_of_several(self):
        pairs = [pair for pair in self.WHOLE if pair not in [("T", "t"), ("E", "e"), ("T", "y")]]
        self.assertEqual(self.lack(pairs), (1, 1, "y"))
        self.assertEqual(self.lack(pairs, []), (2, 0, "t"))

    def test_the_first_place_of_several(self):
        pairs = [pair for pair in self.WHOLE if pair[0] != "S"]
        self.assertEqual(self.lack(pairs), (0, 0, "e"))
        self.assertEqual(self.lack(pairs + [("S", "e")]), (0, 1, "t"))
        self.assertEqual(self.lack(pairs + [("S", "e"), ("S", "t"), ("S", "y")]), (0, 2, "x"))

    def test_the_least_word_of_several(self):
        rules = [("S", ("T",)), ("T", ("t",))]
        pairs = [("T", "t"), ("T", "m"), ("T", "z"), ("T", "M"), ("T", "b")]
        self.assertEqual(begins_lack(rules, [], pairs), (0, 0, "M"))
        self.assertEqual(begins_lack(rules, [], pairs + [("S", "M")]), (0, 0, "b"))
        self.assertEqual(begins_lack(rules, [], pairs + [("T", "")]), (0, 0, ""))

    def test_whatever_text_is_told_as_a_word(self):
        rules = [("S", ("T",)), ("T", ("t",))]
        pairs = [("S", "t"), ("T", "t")]
        self.assertIsNone(begins_lack(rules, [], pairs))
        self.assertEqual(begins_lack(rules, [], pairs + [("T", "S")]), (0, 0, "S"))
        self.assertEqual(begins_lack(rules, [], pairs + [("T", "T")]), (0, 0, "T"))
        self.assertEqual(begins_lack(rules, [], pairs + [("T", "nowhere")]), (0, 0, "nowhere"))
        self.assertIsNone(begins_lack(rules, [], pairs + [("S", "nowhere"), ("T", "nowhere")]))

    def test_what_is_told_of_a_word_is_not_asked(self):
        rules = [("S", ("T",)), ("T", ("t",))]
        self.assertIsNone(begins_lack(rules, [], [("S", "t"), ("T", "t"), ("t", "a"), ("nowhere", "b")]))
        self.assertEqual(begins_lack([("S", ("t",))], [], [("t", "t"), ("t", "a")]), (0, 0, "t"))

    def test_a_name_that_is_told_with_nothing(self):
        self.assertEqual(begins_lack([("S", ("T",)), ("T", ("t",))], [], []), (1, 0, "t"))


class PlainTest(unittest.TestCase):
    """The checkers against the words of point 16, said once more, on rows told by chance."""

    def test_what_stands_by_chance(self):
        chance = random.Random(51)
        met = set()
        for rules in chance_rule_lists(52, 800, most_rules=5, most_parts=2, names="AB", words="xy"):
            names = chance.choices("ABx", k=2)
            told = []
            rows = []
            for _ in range(12):
                row = chance_row(chance, rules)
                # Mostly rows that stand, so that some stand behind others; now and then one that does not.
                if plain_empties_stand(rules, told + [row[::2]]) or not chance.randrange(40):
                    told.append(row[::2])
                if plain_begins_stand(rules, names, rows + [row + (0,)]) or not chance.randrange(40):
                    rows.append(row + (chance.choice((0, 0, 0, 1, 2, -1)),))
            answers = (empties_stand(rules, told), begins_stand(rules, names, rows))
            self.assertIs(answers[0], plain_empties_stand(rules, told), (rules, told))
            self.assertIs(answers[1], plain_begins_stand(rules, names, rows), (rules, names, rows))
            met.add(("empties", len(told), answers[0]))
            met.add(("begins", len(rows), answers[1]))
        for many in (1, 2):
            self.assertLessEqual({(kind, many, told) for kind in ("empties", "begins") for told in (True, False)}, met)

    def test_what_lacks_by_chance(self):
        chance = random.Random(53)
        met = set()
        for rules in chance_rule_lists(54, 1500, most_rules=5, most_parts=3, names="AB", words="xy"):
            names = chance.choices("ABx", k=chance.randrange(4))
            pairs = [(chance.choice("ABx"), chance.choice("xyAz")) for _ in range(chance.randrange(12))]
            self.assertEqual(empties_lack(rules, names), plain_empties_lack(rules, names))
            self.assertEqual(begins_lack(rules, names, pairs), plain_begins_lack(rules, names, pairs))
            met.add((empties_lack(rules, names) is None, begins_lack(rules, names, pairs) is None))
        self.assertEqual(len(met), 4)

    def test_nothing_handed_in_is_changed(self):
        told = [("A", 1), ("B", 2)]
        rows = [("T", "t", 2, 0), ("S", "t", 0, 1)]
        names = ["T", "E"]
        pairs = [("S", "t"), ("T", "t")]
        before = repr((EMPTY, BEGIN, told, rows, names, pairs))
        empties_stand(EMPTY, told)
        empties_lack(EMPTY, names)
        begins_stand(BEGIN, names, rows)
        begins_lack(BEGIN, names, pairs)
        self.assertEqual(repr((EMPTY, BEGIN, told, rows, names, pairs)), before)


def chance_row(chance, rules):
    """A name, a word and a rule's number, mostly of a rule with this head."""
    number = chance.randrange(-1, len(rules) + 1)
    head = rules[number % len(rules)][0]
    return (head if chance.randrange(8) else chance.choice("ABx"), chance.choice("xxyyAz"), number)


def plain_empties_stand(rules, told):
    return all(
        number in range(len(rules)) and rules[number][0] == name
        and all(part in [other for other, ahead in told[:at]] for part in rules[number][1])
        and name not in [other for other, ahead in told[:at]]
        for at, (name, number) in enumerate(told))


def plain_empties_lack(rules, names):
    lacking = [number for number, (head, parts) in enumerate(rules) if set(parts) <= set(names) and head not in names]
    return lacking[0] if lacking else None


def plain_begins_stand(rules, names, told):
    heads = [head for head, parts in rules]
    for at, (name, word, number, place) in enumerate(told):
        pairs = [row[:2] for row in told[:at]]
        if number not in range(len(rules)) or place not in range(len(rules[number][1])) or (name, word) in pairs:
            return False
        part = rules[number][1][place]
        if rules[number][0] != name or not set(rules[number][1][:place]) <= set(names):
            return False
        if not (part == word and word not in heads or part in heads and (part, word) in pairs):
            return False
    return True


def plain_begins_lack(rules, names, pairs):
    heads = [head for head, parts in rules]
    lacking = []
    for number, (head, parts) in enumerate(rules):
        for place, part in enumerate(parts):
            words = [word for name, word in pairs if name == part] if part in heads else [part]
            if set(parts[:place]) <= set(names):
                lacking += [(number, place, word) for word in words if (head, word) not in pairs]
    return min(lacking, default=None)


if __name__ == "__main__":
    unittest.main()
