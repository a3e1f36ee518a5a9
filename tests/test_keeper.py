"""Points 47 and 48: rows changed at a place, and read anew with kept trees."""

import copy
import itertools
import random
import unittest

from tests.helpers import PlainKeeper, Soon, plain_rows, sound_lists
from wright.errors import Clash, Refused, TooMany, WrightError
from wright.grammars import Grammar
from wright.keeper import Keeper
from wright.reader import Reader

SUM = [("E", ("E", "+", "T")), ("E", ("T",)), ("T", ("n",)), ("T", ("(", "E", ")"))]
# A list of statements, each by itself.
LIST = [("L", ("L", "S")), ("L", ("S",)), ("S", ("a", "X", ";")), ("S", ("b", "X", ";")), ("X", ("x",)), ("X", ("x", "X"))]
# A and B can be empty.
EMPTY = [("S", ("A", "B", "x")), ("A", ()), ("B", ()), ("A", ("y",)), ("B", ("z", "B"))]
# D comes behind an empty C.
BEHIND = [("S", ("C", "D", "e", "F")), ("C", ()), ("D", ("d", "d")), ("F", ("f",)), ("F", ())]
STRONG = [("E", ("E", "+", "E")), ("E", ("E", "*", "E")), ("E", ("n",))]
# Four trees of no words, of 43 rules each, stand ahead of each x: 175 deeds for each.
MAKES = [("S", ("S", "T")), ("S", ("T",)), ("T", ("A", "A", "A", "A", "x")), ("A", ("B",) * 6), ("B", ("C",) * 6),
         ("C", ()), ("T", ("y",))]


class KeeperTest(unittest.TestCase):
    def begin(self, rules, row, strengths=None, join=False):
        self.reader = Reader(Grammar(rules, strengths), join)
        self.keeper = Keeper(self.reader, list(row))
        self.plain = PlainKeeper(rules, self.reader.plan(), self.reader.deeds(), list(row))
        self.assertEqual(self.keeper.words(), list(row))
        self.assertEqual(self.keeper.tree(), self.reader.read(list(row))[1])

    def change(self, at, many, words, stepped=None):
        """The change, held against reading all anew, and against the plain words; what the keeper told."""
        words = list(words)
        before = (self.keeper.words(), self.keeper.tree())
        row = before[0][:at] + words + before[0][at + many:]
        wanted = self.plain.change(at, many, words)
        if isinstance(wanted, int):
            for call in (lambda: self.keeper.change(at, many, words), lambda: self.reader.read(row)):
                with self.assertRaises(Refused) as caught:
                    call()
                self.assertEqual(caught.exception.place, wanted)
            self.assertEqual((self.keeper.words(), self.keeper.tree()), before)
            return None
        told = self.keeper.change(at, many, words)
        self.assertEqual((type(told), len(told), type(told[1])), (tuple, 2, int))
        self.assertEqual(told[0], self.reader.read(row)[1])
        self.assertEqual(told, wanted)
        self.assertEqual((self.keeper.words(), self.keeper.tree()), (row, told[0]))
        if stepped is not None:
            self.assertEqual(told[1], stepped)
        return told

    def test_a_row_and_its_tree(self):
        self.begin(SUM, "n+n")
        self.assertEqual(self.keeper.tree(), (0, ((1, ((2, ("n",)),)), "+", (2, ("n",)))))
        self.begin(EMPTY, "x")
        self.assertEqual(self.keeper.tree(), (0, ((1, ()), (2, ()), "x")))

    def test_a_row_that_is_refused(self):
        reader = Reader(Grammar(SUM))
        for row, place in (("", 0), ("+", 0), ("n+", 2), ("n+n)", 3)):
            with self.assertRaises(Refused) as caught:
                Keeper(reader, list(row))
            self.assertEqual(caught.exception.place, place)

    def test_at_the_end(self):
        self.begin(SUM, "n+n+n")
        # n+n stands as then, and + behind it.
        self.change(4, 1, "n", 2)
        self.begin(SUM, "n+n+n")
        # The word behind n+n+n is another one: n+n alone is kept.
        self.change(5, 0, "+n", 4)
        self.begin(SUM, "n+n+n+n")
        self.change(5, 2, "", 2)

    def test_at_the_beginning(self):
        self.begin(SUM, "n+n+n")
        # From another room than room 0 on, the last T is as it was; the first E is not.
        self.change(0, 1, "n", 3)
        self.begin(SUM, "n+n+n")
        # What was the first E stands from another room now.
        self.change(0, 0, "n+", 5)
        self.begin(SUM, "n+n+n")
        self.change(0, 2, "", 2)

    def test_amid_the_row(self):
        self.begin(SUM, "n+(n+n)+n")
        self.change(3, 1, "n", 6)
        self.begin(SUM, "n+(n+n)+n")
        self.change(5, 1, "n", 6)
        self.begin(SUM, "n+(n+n)+n")
        self.change(8, 0, "n+", 3)

    def test_statements(self):
        self.begin(LIST, "axx;bx;axxx;bx;")
        # Those ahead are kept in one tree, each behind as its own.
        self.change(9, 1, "x", 4)
        self.change(5, 0, "xx", 5)
        # Another word behind the first one, whose X is kept alone.
        self.change(4, 0, "ax;", 5)
        self.change(0, 4, "", 2)
        self.change(0, 0, "bx;", 5)

    def test_no_words_to_no_words(self):
        for rules, rows in ((SUM, ("n", "n+(n+n)")), (LIST, ("axx;bx;",)), (EMPTY, ("x", "yzzx"))):
            for row in rows:
                self.begin(rules, row)
                tree = self.keeper.tree()
                for at in range(len(row) + 1):
                    self.assertEqual(self.change(at, 0, ""), (tree, 0))

    def test_no_words_to_no_words_of_the_row_of_no_words(self):
        self.begin([("S", ("a", "S")), ("S", ())], "")
        self.assertEqual(self.change(0, 0, ""), ((1, ()), 0))
        self.change(0, 0, "a", 1)
        self.change(0, 1, "", 0)

    def test_a_like_word_in_a_like_ones_place_is_taken_away(self):
        self.begin(SUM, "(n)")
        self.change(1, 1, "n", 3)
        self.change(0, 3, "(n)", 3)
        self.begin(SUM, "n")
        self.change(0, 1, "n", 1)
        self.change(0, 0, "", 0)

    def test_put_between_the_words_of_a_tree(self):
        rules = [("S", ("P", "P")), ("P", ("p", "q")), ("P", ("p", "r", "q"))]
        self.begin(rules, "pqpq")
        self.change(1, 0, "r", 3)
        self.begin(rules, "pqpq")
        self.change(3, 0, "r", 3)
        self.begin(rules, "prqpq")
        self.change(1, 1, "", 2)

    def test_the_word_behind_is_another_one(self):
        rules = [("S", ("A", "b")), ("S", ("A", "c")), ("A", ("a", "a"))]
        self.begin(rules, "aab")
        self.change(2, 1, "c", 3)
        self.change(2, 1, "c", 1)
        self.change(2, 1, "b", 3)

    def test_the_word_behind_is_the_end(self):
        rules = [("S", ("S", "A")), ("S", ("A",)), ("A", ("a", "a"))]
        self.begin(rules, "aaaa")
        # The last A had the end behind it, the first one had not.
        self.change(0, 2, "", 2)
        self.begin(rules, "aaaa")
        self.change(2, 2, "", 2)
        self.begin(rules, "aaaa")
        self.change(4, 0, "aa", 4)
        self.begin(rules, "aaaa")
        self.change(2, 0, "aa", 2)

    def test_from_another_room(self):
        rules = [("S", ("A", "A")), ("S", ("b", "A")), ("A", ("a", "a"))]
        self.begin(rules, "aaaa")
        # The last A stands behind an A then, and behind b now: another room.
        self.change(0, 2, "b", 3)
        self.begin(rules, "aaaa")
        self.change(0, 2, "aa", 2)

    def test_like_words_elsewhere_are_others(self):
        # The A behind would do as a tree ahead by its words alone, but stood from another room.
        rules = [("S", ("A", "A", "A")), ("A", ("a", "b"))]
        self.begin(rules, "ababab")
        self.change(0, 2, "ab", 2)
        self.change(0, 6, "ababab", 6)
        self.change(2, 2, "ab", 2)

    def test_the_longest_of_several(self):
        self.begin(SUM, "n+n+n+n+n")
        self.change(8, 1, "n", 2)
        self.begin(SUM, "n+n+n+n+n")
        self.change(6, 1, "n", 3)
        self.begin(SUM, "n+n+n+n+n")
        self.change(4, 1, "n", 4)

    def test_of_equally_long_ones_the_one_made_last(self):
        rules = [("S", ("A", "x")), ("A", ("B", "Z")), ("B", ("C",)), ("C", ("c", "c")), ("Z", ())]
        self.begin(rules, "ccx")
        told = self.change(2, 1, "x", 1)
        self.assertEqual(told[0], (0, ((1, ((2, ((3, ("c", "c")),)), (4, ()))), "x")))

    def test_names_that_can_be_empty(self):
        self.begin(EMPTY, "yzx")
        self.change(0, 1, "", 1)
        self.change(0, 0, "y", 2)
        self.change(1, 0, "z", 3)
        self.change(1, 2, "", 2)
        self.change(0, 1, "", 1)

    def test_behind_an_empty_tree(self):
        self.begin(BEHIND, "ddef")
        # D is kept though an empty C is made ahead of it, at another room.
        self.change(2, 1, "e", 1)
        self.begin(BEHIND, "dde")
        self.change(3, 0, "f", 2)
        self.change(3, 1, "", 1)

    def test_a_tree_that_begins_with_an_empty_one(self):
        rules = [("S", ("P", "e")), ("S", ("P", "e", "e")), ("P", ("C", "D")), ("C", ()), ("D", ("d",))]
        self.begin(rules, "de")
        self.change(1, 0, "e", 2)
        self.change(1, 1, "", 1)

    def test_a_refused_change_leaves_all(self):
        self.begin(LIST, "axx;bx;axxx;bx;")
        for at, many, words, place in ((0, 0, "x", 0), (4, 0, "x", 4), (15, 0, "a", 16), (14, 1, "", 14), (0, 15, "", 0),
                                       (5, 1, "q", 5), (5, 1, "", 5), (7, 0, "aL;", 8)):
            with self.assertRaises(Refused) as caught:
                self.keeper.change(at, many, list(words))
            self.assertEqual(caught.exception.place, place)
            self.change(at, many, words)
        # The kept trees are there still.
        self.change(0, 0, "", 0)
        self.change(9, 1, "", 3)

    def test_several_changes_one_behind_the_other(self):
        self.begin(SUM, "n")
        self.change(1, 0, "+n", 3)
        self.change(3, 0, "+(n)", 6)
        self.change(0, 0, "(n)+", 7)
        self.change(5, 0, "", 0)
        self.assertEqual("".join(self.keeper.words()), "(n)+n+n+(n)")
        self.change(8, 3, "n", 2)
        self.change(1, 1, "n+n", 8)

    def test_all_taken_away_and_put_in_again(self):
        self.begin([("S", ("a", "S")), ("S", ())], "aaa")
        self.change(0, 3, "", 0)
        self.change(0, 0, "aaa", 3)

    def test_strengths(self):
        for join in (False, True):
            self.begin(STRONG, "n+n*n+n", [("left", ("+",)), ("right", ("*",))], join)
            self.change(1, 1, "*")
            self.change(3, 1, "+")
            self.change(7, 0, "*n*n")
            self.change(0, 2, "")
            self.change(9, 0, "+")
            self.change(9, 0, "")
        # The word behind sees to it which tree there is.
        self.begin(STRONG, "n+n+n", [("left", ("+",)), ("left", ("*",))])
        self.assertEqual(self.change(3, 1, "*")[0], (0, ((2, ("n",)), "+", (1, ((2, ("n",)), "*", (2, ("n",)))))))

    def test_joined_rooms(self):
        rules = [("S", ("a", "A", "x")), ("S", ("b", "A", "y")), ("A", ("c", "c"))]
        self.begin(rules, "accx", join=True)
        # Joined, the word behind still has to be a like one; the rooms of a and of b stay two.
        self.change(0, 0, "")
        self.change(0, 1, "a", 2)
        self.assertIsNone(self.change(0, 1, "b"))
        self.begin(rules, "accx", join=True)
        self.change(0, 4, "bccy", 4)

    def test_all_small_changes(self):
        for rules, row, words in ((SUM, "n+(n+n)", "n+()"), (LIST, "ax;bxx;", "abx;"), (EMPTY, "yzx", "xyz"),
                                  (BEHIND, "ddef", "def")):
            puts = [list(put) for many in range(3) for put in itertools.product(words, repeat=many)]
            self.begin(rules, row)
            for at in range(len(row) + 1):
                for many in range(len(row) - at + 1):
                    for put in puts:
                        self.change(at, many, put)
                        if self.keeper.words() != list(row):
                            self.begin(rules, row)

    def test_by_chance(self):
        chance = random.Random(9)
        taken = 0
        kept = 0
        for rules in sound_lists(231, 700) + sound_lists(232, 200, 12, 4, "ABCDEF", "vwxyz"):
            rows = [row for row in plain_rows(rules, 6) if row]
            try:
                Reader(Grammar(rules, [("left", ("x",)), ("right", ("y", "A"))]))
            except WrightError:
                continue
            if not rows:
                continue
            join = chance.random() < 0.3
            try:
                self.begin(rules, chance.choice(rows), [("left", ("x",)), ("right", ("y", "A"))], join)
            except (Clash, Refused):
                continue
            for _ in range(12):
                row = self.keeper.words()
                at = chance.randrange(len(row) + 1)
                many = chance.randrange(len(row) - at + 1)
                other = list(chance.choice(rows))
                # A piece of the row, one of another row, or the row made another one.
                put = chance.choice([other, row[at:at + many], row[at:], other[:at], chance.choices("vwxyz", k=2), []])
                if chance.random() < 0.4:
                    at = next((one for one in range(len(row)) if row[:one + 1] != other[:one + 1]), 0)
                    many, put = len(row) - at, other[at:]
                told = self.change(at, many, put)
                if told is not None:
                    taken += 1
                    kept += told[1] < len(self.keeper.words())
        self.assertGreater(taken, 500)
        self.assertGreater(kept, 200)


class TooManyTest(unittest.TestCase):
    """Where reading all anew has too many deeds, so has the change."""

    def test_a_row_that_has_too_many(self):
        self.assertRaises(TooMany, Keeper, Reader(Grammar(MAKES)), ["x"] * 23)

    def test_a_change_that_has_too_many(self):
        reader = Reader(Grammar(MAKES))
        keeper = Keeper(reader, ["x"] * 22)
        wanted = (keeper.words(), keeper.tree())
        self.assertRaises(TooMany, reader.read, ["x"] * 23)
        for at in (0, 11, 22):
            self.assertRaises(TooMany, keeper.change, at, 0, ["x"])
        self.assertEqual((keeper.words(), keeper.tree()), wanted)
        self.assertEqual(keeper.change(0, 0, []), (wanted[1], 0))
        # 22 of x have 3850 deeds, a y has three: 3997 with 49 of them, and done.
        row = ["x"] * 22 + ["y"] * 49
        self.assertEqual(keeper.change(22, 0, ["y"] * 49)[0], reader.read(row)[1])
        self.assertRaises(TooMany, reader.read, row + ["y"])
        self.assertRaises(TooMany, keeper.change, 71, 0, ["y"])
        self.assertRaises(TooMany, keeper.change, 22, 0, ["y"])
        # Refused ahead of the four thousandth deed, or not.
        for bad in (["z"], ["y", "z"]):
            place = None
            try:
                reader.read(row + bad)
            except Refused as refused:
                place = refused.place
            except TooMany:
                pass
            if place is None:
                self.assertRaises(TooMany, keeper.change, 71, 0, bad)
            else:
                with self.assertRaises(Refused) as caught:
                    keeper.change(71, 0, bad)
                self.assertEqual(caught.exception.place, place)


class OwnTest(unittest.TestCase):
    def test_what_is_handed_in_is_emptied_behind(self):
        row = list("n+n")
        keeper = Keeper(Reader(Grammar(SUM)), row)
        row.clear()
        self.assertEqual(keeper.words(), list("n+n"))
        words = list("+n")
        tree = keeper.change(3, 0, words)[0]
        self.assertEqual(words, list("+n"))
        words.clear()
        self.assertEqual(keeper.words(), list("n+n+n"))
        self.assertEqual(keeper.tree(), tree)
        self.assertEqual(keeper.change(5, 0, [])[0], tree)

    def test_told_lists_are_the_askers_own(self):
        keeper = Keeper(Reader(Grammar(SUM)), list("n+n"))
        keeper.words().clear()
        self.assertIsNot(keeper.words(), keeper.words())
        self.assertEqual(keeper.words(), list("n+n"))
        told = keeper.words()
        keeper.change(0, 2, [])
        self.assertEqual(told, list("n+n"))

    def test_keepers_of_one_reader_are_apart(self):
        reader = Reader(Grammar(SUM))
        one, other = Keeper(reader, ["n"]), Keeper(reader, list("n+n"))
        one.change(0, 1, list("(n)"))
        reader.read(["n"])
        self.assertEqual((one.words(), other.words()), (list("(n)"), list("n+n")))
        self.assertEqual(other.change(0, 0, [])[1], 0)

    def test_what_was_told_stays(self):
        keeper = Keeper(Reader(Grammar(SUM)), list("n+n"))
        told = keeper.change(3, 0, list("+n"))
        kept = copy.deepcopy(told)
        keeper.change(0, 2, [])
        self.assertEqual(told, kept)


class SoonTest(unittest.TestCase):
    def test_many_changes(self):
        keeper = Keeper(Reader(Grammar(MAKES)), ["x"] * 20)
        with Soon(self, 8):
            for at in range(20):
                for _ in range(5):
                    self.assertEqual(keeper.change(at, 1, ["x"])[1], 1)
                    self.assertEqual(keeper.change(at, 0, [])[1], 0)

    def test_deep_trees(self):
        keeper = Keeper(Reader(Grammar([("S", ("x", "S")), ("S", ("y",))])), ["x"] * 1500 + ["y"])
        with Soon(self, 8):
            for _ in range(5):
                self.assertEqual(keeper.change(0, 1, ["x"])[1], 1)
                self.assertEqual(keeper.change(1500, 1, ["y"])[1], 1501)


if __name__ == "__main__":
    unittest.main()
