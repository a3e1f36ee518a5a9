"""Rows read with a table, rooms and deeds, and readers made of grammars."""

from wright.deeds import clashes_of, deeds_of
from wright.errors import Clash, Refused, TooMany
from wright.joined import joined_plan
from wright.rooms import rooms_of
from wright.strengths import put_right

MOST_DEEDS = 4000


def read_with(rules, plan, deeds, row):
    return read_row(Table(rules, plan, deeds), row)


def read_row(table, row):
    reading = Reading(table, row)
    while not reading.is_taken():
        reading.do_next()
    return (reading.history, reading.top_tree())


# A plan and its deeds as they are asked: by room and word the deed, by room and part the next room.
class Table:
    def __init__(self, rules, plan, deeds):
        self.rules = list(rules)
        self.next_deeds = dict([((room, word), deed) for room, word, deed in deeds])
        self.next_rooms = dict([((room, part), to) for room, part, to in plan[1]])


class Reading:
    def __init__(self, table, row):
        self.table = table
        self.row = list(row)
        self.stepped = 0
        # Tuples (room, what came with it: a word or a tree, where this began); with room 0 nothing came.
        self.pile = [(0, None, None)]
        # The deeds done, as those of a tree.
        self.history = []
        # The trees made, in order: tuples (room, at, to, many, tree): the room below the tree, the span of
        # its words in the row, and how many of the trees made are in it, itself too.
        self.made = []

    def is_taken(self):
        return self.history[-1:] == [("done",)]

    def top_tree(self):
        return self.pile[-1][1]

    def do_next(self):
        # Each word stepped and each tree made is a deed.
        if self.stepped + len(self.made) >= MOST_DEEDS:
            raise TooMany()
        word = word_at(self.row, self.stepped)
        deed = self.table.next_deeds.get((self.pile[-1][0], word))
        if deed is None:
            raise Refused(self.stepped)
        if deed[0] == "step":
            self.pile.append((deed[1], word, self.here()))
            self.stepped += 1
            deed = ("step", word)
        elif deed[0] == "make":
            self.make_tree(deed[1])
        self.history.append(deed)

    # Behind so many words and trees.
    def here(self):
        return (self.stepped, len(self.made))

    def make_tree(self, number):
        rule = self.table.rules[number]
        taken = [self.pile.pop() for part in rule[1]]
        begun = taken[-1][2] if taken else self.here()
        tree = (number, tuple([child for room, child, since in taken[::-1]]))
        room = self.pile[-1][0]
        to = self.table.next_rooms.get((room, rule[0]))
        if to is None:
            raise Refused(self.stepped)
        self.made.append((room, begun[0], self.stepped, len(self.made) + 1 - begun[1], tree))
        self.pile.append((to, tree, begun))


def word_at(row, place):
    return row[place] if place < len(row) else ""


class Reader:
    def __init__(self, grammar, join=False):
        plan = rooms_of(grammar)
        if join:
            plan = joined_plan(plan)[0]
        settled = put_right(grammar, deeds_of(grammar, plan))
        clashes = clashes_of(settled[0])
        if clashes:
            raise Clash(clashes)
        self.own_plan = plan
        self.settled = settled
        self.table = Table(grammar.rules, plan, settled[0])

    def read(self, row):
        return read_row(self.table, row)

    def plan(self):
        return ([list(room) for room in self.own_plan[0]], list(self.own_plan[1]))

    def deeds(self):
        return list(self.settled[0])

    def aside(self):
        return list(self.settled[1])
