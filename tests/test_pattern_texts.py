"""Point 5: how a pattern is written, what it is read as, and where it is refused."""

import re
import unittest
from itertools import product

from tests.helpers import EMPTY, again, either, sign, then
from wright.errors import NoPattern
from wright.pattern_texts import read_pattern

A = sign("a")
B = sign("b")
C = sign("c")


def refused_at(text):
    try:
        read_pattern(text)
    except NoPattern as error:
        return error.place
    return None


def well_written(text):
    """Whether a text writes a pattern: pieces are shortened to x from the inside until nothing changes."""
    def item_set(found):
        for item in re.findall(r"(~.|[^~])(?:-(~.|[^~]))?", found.group(0)[1:-1]):
            if item[1] and item[0][-1] > item[1][-1]:
                return "!"
        return "x"

    one = r"(?:~[\]~-]|[^\]~-])"
    text = re.sub(rf"~.|\[(?:{one}(?:-{one})?)+\]", lambda m: item_set(m) if m.group(0)[0] == "[" else "x", text)
    if "~" in text or "[" in text or "]" in text or "!" in text:
        return False
    last = None
    while last != text:
        last = text
        text = re.sub(r"\((?:[^()|*+?][*+?]?|\|)*\)", "x", text)
    return re.fullmatch(r"(?:[^()|*+?][*+?]?|\|)*", text) is not None


ENDS = [end + ")" * many for end in ("", "a", "a]", "]", "~", "~]", "~~]") for many in range(6)]


def plain_place(text):
    """The longest beginning that some end makes a written pattern; None where the text is one."""
    if well_written(text):
        return None
    for many in range(len(text), -1, -1):
        if any(well_written(text[:many] + end) for end in ENDS):
            return many
    return None


class ReadTest(unittest.TestCase):
    def test_a_sign_stands_for_itself(self):
        for c in " !\"#$&',-./09:;<=>@AZ\\^_`az{}":
            self.assertEqual(read_pattern(c), ("sign", c, c))

    def test_a_marked_sign_stands_for_itself(self):
        for c in "()[]|*+?~ a-":
            self.assertEqual(read_pattern("~" + c), ("sign", c, c))
        self.assertEqual(read_pattern("~*~~"), then(sign("*"), sign("~")))
        self.assertEqual(read_pattern("~**"), again(sign("*")))

    def test_items(self):
        self.assertEqual(read_pattern("[a]"), A)
        self.assertEqual(read_pattern("[a-c]"), sign("a", "c"))
        self.assertEqual(read_pattern("[a-a]"), A)
        self.assertEqual(read_pattern("[abc]"), either(A, either(B, C)))
        self.assertEqual(read_pattern("[aa]"), either(A, A))
        self.assertEqual(read_pattern("[0-9a_]"), either(sign("0", "9"), either(A, sign("_"))))

    def test_marked_signs_within_items(self):
        self.assertEqual(read_pattern("[~]~-~~]"), either(sign("]"), either(sign("-"), sign("~"))))
        self.assertEqual(read_pattern("[~--~]]"), sign("-", "]"))
        self.assertEqual(read_pattern("[~]-a]"), sign("]", "a"))
        self.assertEqual(read_pattern("[a-~~]"), sign("a", "~"))
        self.assertEqual(read_pattern("[~~-~~]"), sign("~"))
        self.assertEqual(read_pattern("[ -~~]"), sign(" ", "~"))

    def test_other_signs_within_items_stand_as_they_are(self):
        wanted = [sign(c) for c in "([)|*+?"]
        whole = wanted[-1]
        for one in reversed(wanted[:-1]):
            whole = either(one, whole)
        self.assertEqual(read_pattern("[([)|*+?]"), whole)
        self.assertEqual(read_pattern("[(-+]"), sign("(", "+"))

    def test_marks_behind_a_piece(self):
        self.assertEqual(read_pattern("a*"), again(A))
        self.assertEqual(read_pattern("a+"), then(A, again(A)))
        self.assertEqual(read_pattern("a?"), either(A, EMPTY))
        self.assertEqual(read_pattern("[ab]*"), again(either(A, B)))
        self.assertEqual(read_pattern("(ab)+"), then(then(A, B), again(then(A, B))))
        self.assertEqual(read_pattern("(a*)*"), again(again(A)))
        self.assertEqual(read_pattern("(a?)+"), then(either(A, EMPTY), again(either(A, EMPTY))))
        self.assertEqual(read_pattern("ab*"), then(A, again(B)))

    def test_pieces_one_behind_the_other(self):
        self.assertEqual(read_pattern("abc"), then(A, then(B, C)))
        self.assertEqual(read_pattern("(ab)c"), then(then(A, B), C))
        self.assertEqual(read_pattern("a+b"), then(then(A, again(A)), B))

    def test_rows(self):
        self.assertEqual(read_pattern("a|b|c"), either(A, either(B, C)))
        self.assertEqual(read_pattern("ab|c"), either(then(A, B), C))
        self.assertEqual(read_pattern("(a|b)c"), then(either(A, B), C))
        self.assertEqual(read_pattern("(a|b)|c"), either(either(A, B), C))

    def test_rows_without_pieces(self):
        self.assertEqual(read_pattern(""), EMPTY)
        self.assertEqual(read_pattern("()"), EMPTY)
        self.assertEqual(read_pattern("()*"), again(EMPTY))
        self.assertEqual(read_pattern("|"), either(EMPTY, EMPTY))
        self.assertEqual(read_pattern("a|"), either(A, EMPTY))
        self.assertEqual(read_pattern("|a"), either(EMPTY, A))
        self.assertEqual(read_pattern("a||b"), either(A, either(EMPTY, B)))
        self.assertEqual(read_pattern("(|a)b"), then(either(EMPTY, A), B))
        self.assertEqual(read_pattern("()()"), then(EMPTY, EMPTY))

    def test_round_brackets_up_to_20_deep(self):
        self.assertEqual(read_pattern("(" * 20 + "a" + ")" * 20), A)
        wanted = A
        for step in range(20):
            wanted = then(again(wanted), B)
        self.assertEqual(read_pattern("(" * 20 + "a" + ")*b" * 20), wanted)
        self.assertEqual(refused_at("(" * 20 + "a" + ")" * 19), 40)
        self.assertEqual(refused_at("(" * 20 + "a" + ")" * 21), 41)

    def test_a_long_text(self):
        wanted = sign("z")
        for c in reversed("abc" * 33):
            wanted = then(sign(c), wanted)
        self.assertEqual(read_pattern("abc" * 33 + "z"), wanted)


class RefusedTest(unittest.TestCase):
    def test_the_places_that_the_document_tells(self):
        self.assertEqual(refused_at("a)"), 1)
        self.assertEqual(refused_at("(a"), 2)
        self.assertEqual(refused_at("a**"), 2)
        self.assertEqual(refused_at("[b-a]"), 3)

    def test_marks_without_a_piece(self):
        for text, place in (("*", 0), ("+a", 0), ("a|?", 2), ("(*)", 1), ("a+?", 2), ("a?*", 2), ("(a)*+", 4)):
            self.assertEqual(refused_at(text), place, text)

    def test_brackets_that_are_not_open(self):
        for text, place in ((")", 0), ("]", 0), ("a]", 1), ("(a))", 3), ("[a]]", 3)):
            self.assertEqual(refused_at(text), place, text)

    def test_items_that_are_none(self):
        for text, place in (("[]", 1), ("[-a]", 1), ("[a-]", 3), ("[a-b-c]", 4), ("[a--]", 3), ("[~a]", 2),
                            ("[a~b]", 3), ("[a-~b]", 4), ("[b-~]]", 4), ("[~~-a]", 4), ("[~~-~-]", 5)):
            self.assertEqual(refused_at(text), place, text)

    def test_texts_that_end_too_early(self):
        for text in ("~", "a~", "(", "(a|", "((a)", "[", "[a", "[a-", "[a-b", "[~", "[a~", "[a-~", "[~~-~", "(~)",
                     "([a])*(", "[(]("):
            self.assertEqual(refused_at(text), len(text), text)

    def test_the_first_fault_counts(self):
        self.assertEqual(refused_at("(a**[b-a]"), 3)
        self.assertEqual(refused_at("([b-a)"), 4)

    def test_all_short_texts(self):
        for signs, most in (("a()|*~", 5), ("ab[]-~", 5), ("a[](-?", 5), ("a[]()|*+?~-", 3)):
            for many in range(most + 1):
                for row in product(signs, repeat=many):
                    text = "".join(row)
                    self.assertEqual(refused_at(text), plain_place(text), text)


if __name__ == "__main__":
    unittest.main()
