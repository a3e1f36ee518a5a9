"""Texts cut into words by patterns."""

from wright.errors import NoWord
from wright.pattern_walks import Walk


class Cutter:
    def __init__(self, kinds):
        self.kinds = list(kinds)

    def cut(self, text):
        # Walks are made for each text: kept, they would have more and more states.
        finders = [(kind, Walk(pattern), {}) for kind, pattern in self.kinds]
        words = []
        place = 0
        while place < len(text):
            found = first_longest(finders, text, place)
            if found[1] == 0:
                raise NoWord(place)
            end = place + found[1]
            if found[0] != "-":
                words.append((found[0], text[place:end]))
            place = end
        return words


# The kind and the number of signs of the word at a place; 0 where there is none of one sign at least.
def first_longest(finders, text, place):
    best = ("", 0)
    for kind, walk, spent in finders:
        many = walk.longest_word(text, place, spent)
        if many > best[1]:
            best = (kind, many)
    return best
