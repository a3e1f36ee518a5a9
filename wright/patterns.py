"""What a pattern has as its texts, and what is left of it by a sign."""

from wright.pattern_forms import EMPTY, NONE, nested, row_of_two
from wright.pattern_walks import Walk


def can_be_empty(pattern):
    return Walk(pattern).takes("")


def has_text(pattern, text):
    return Walk(pattern).takes(text)


def left_of(pattern, sign):
    walk = Walk(pattern)
    return pattern_of(walk.cells, walk.cells_behind(walk.first, sign))


def longest(pattern, text, at):
    return Walk(pattern).longest_word(text, at, {})


def pattern_of(cells, chosen):
    # A cell has a greater number than the one behind it: walked from the greatest, all that stands
    # ahead of a cell is there when it is come to, and each front is written once.
    ahead = {}
    for cell in chosen:
        ahead[cell] = [EMPTY]
    for cell in range(len(cells.fronts) - 1, 0, -1):
        if cell in ahead:
            piece = row_of_two(nested("or", ahead[cell]), cells.fronts[cell])
            ahead.setdefault(cells.behinds[cell], []).append(piece)
    return nested("or", ahead.get(0, [NONE]))
