"""A desk: told rows, it keeps kinds of words and a grammar, and answers what is asked of them."""

from wright.cutting import Cutter
from wright.deeds import clashes_of, deeds_of
from wright.errors import NoDeed, Refused
from wright.grammar_texts import read_grammar
from wright.mending import mended_row
from wright.pattern_texts import read_pattern
from wright.reader import Reader
from wright.refusals import refusal_of
from wright.rooms import rooms_of
from wright.rules import words_in
from wright.sets import goes_on
from wright.spans import count_trees, first_trees
from wright.strengths import put_right
from wright.tree_texts import written_tree
from wright.trees import row_of

GRAMMAR_ROW = "grammar\n"
MOST_SIGNS = 14
MOST_FIGURES = 30
MOST_WORDS = 12


class Desk:
    def __init__(self):
        self.kinds = []
        self.grammar = None
        # Made when it is first asked for: of a grammar with clashes there is none.
        self.reader = None

    def say(self, row):
        if not isinstance(row, str):
            raise NoDeed()
        if row.startswith(GRAMMAR_ROW):
            return self.take_grammar(row[len(GRAMMAR_ROW):])
        told = row.partition(" ")
        if told[0] == "word":
            return self.take_kind(told[2])
        if self.grammar is None:
            raise NoDeed()
        if row == "clashes":
            return str(count_clashes(self.grammar))
        if told[0] == "mend":
            return self.mend(told[2])
        if told[1] == "" or told[0] not in ("plain", "read", "count", "next"):
            raise NoDeed()
        return self.answer(told[0], self.row_in(told[2]))

    def take_grammar(self, text):
        self.grammar = read_grammar(text)
        self.reader = None
        return "ok"

    def take_kind(self, rest):
        told = rest.partition(" ")
        if told[1] == "" or not 1 <= len(told[0]) <= MOST_SIGNS:
            raise NoDeed()
        self.kinds.append((told[0], read_pattern(told[2])))
        return "ok"

    def row_in(self, text):
        words = words_in(self.grammar.rules)
        return [kind if kind in words else word for kind, word in Cutter(self.kinds).cut(text)]

    def answer(self, asked, row):
        if asked == "plain":
            return written_tree(self.grammar.rules, plain_tree(self.grammar, row))
        if asked == "read":
            return written_tree(self.grammar.rules, self.made_reader().read(row)[1])
        if asked == "count":
            return str(count_trees(self.grammar, row))
        return " ".join([word if word != "" else "." for word in goes_on(self.grammar, row)])

    def made_reader(self):
        if self.reader is None:
            self.reader = Reader(self.grammar)
        return self.reader

    def mend(self, rest):
        told = rest.split(" ", 3)
        if len(told) < 4 or not all([is_number(figures) for figures in told[:3]]):
            raise NoDeed()
        row = self.row_in(told[3])
        if len(row) > MOST_WORDS:
            raise NoDeed()
        mending = mended_row(self.grammar, row, tuple([int(figures) for figures in told[:3]]))
        return " ".join([str(mending[0])] + row_of(mending[2]))


def is_number(figures):
    if not 1 <= len(figures) <= MOST_FIGURES or not all([figure in "0123456789" for figure in figures]):
        return False
    return figures == "0" or figures[0] != "0"


def plain_tree(grammar, row):
    trees = first_trees(grammar, row, 1)
    if not trees:
        raise Refused(refusal_of(grammar, row)[0])
    return trees[0]


def count_clashes(grammar):
    return len(clashes_of(put_right(grammar, deeds_of(grammar, rooms_of(grammar)))[0]))
