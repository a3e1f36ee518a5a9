"""Rows changed at a place and read anew, with the trees kept that the change leaves as they were."""

from wright.reader import Reading, word_at


class Keeper:
    def __init__(self, reader, row):
        self.last = read_keeping(reader.table, row, [], {})

    def tree(self):
        return self.last.top_tree()

    def words(self):
        return list(self.last.row)

    def change(self, at, many, words):
        row = self.last.row[:at] + list(words) + self.last.row[at + many:]
        # Where this is refused, the last reading stays.
        self.last = read_keeping(self.last.table, row, self.last.made, kept_trees(self.last, row, at, many))
        return (self.last.top_tree(), self.last.count_steps())


def read_keeping(table, row, last_made, kept):
    reading = KeepingReading(table, row, last_made, kept)
    while not reading.is_taken():
        reading.go_on()
    return reading


# By room and place in the new row, the tree that is kept there: a tuple (number, by), its number among
# the trees that the last reading made, and by how many words it moves.
def kept_trees(last, row, at, many):
    kept = {}
    for number, made in enumerate(last.made):
        by = moved_by(made, at, many, len(row) - len(last.row))
        if by is not None and word_at(last.row, made[2]) == word_at(row, made[2] + by):
            key = (made[0], made[1] + by)
            # Trees come in the order in which they were made: of equally long ones the last is taken.
            if key not in kept or last.made[kept[key][0]][2] <= made[2]:
                kept[key] = (number, by)
    return kept


# By how many words a made tree moves where the row grows by so many; None where it is not kept.
def moved_by(made, at, many, grown):
    if made[1] == made[2]:
        return None
    if made[2] <= at or (many == 0 and grown == 0):
        return 0
    return grown if made[1] >= at + many else None


class KeepingReading(Reading):
    def __init__(self, table, row, last_made, kept):
        Reading.__init__(self, table, row)
        self.last_made = last_made
        self.kept = kept

    def go_on(self):
        found = self.kept.get((self.pile[-1][0], self.stepped))
        if found is None:
            self.do_next()
        else:
            self.take_kept(found[0], found[1])

    # Goes on behind a kept tree, and keeps the trees in it, which stand right ahead of it.
    def take_kept(self, number, by):
        whole = self.last_made[number]
        begun = self.here()
        for room, at, to, many, tree in self.last_made[number + 1 - whole[3]:number + 1]:
            self.made.append((room, at + by, to + by, many, tree))
        head = self.table.rules[whole[4][0]][0]
        self.pile.append((self.table.next_rooms[(whole[0], head)], whole[4], begun))
        self.stepped = whole[2] + by

    # Kept trees are no deeds done: the steps told are those of single words.
    def count_steps(self):
        return len([deed for deed in self.history if deed[0] == "step"])
