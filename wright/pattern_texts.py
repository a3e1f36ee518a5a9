"""Patterns read from texts.

Read from the left, each sign that is taken leaves a beginning of some written pattern; so the
place of the first sign that can't be taken, or the text's end, is the place of a refusal.
"""

from wright.errors import NoPattern
from wright.pattern_forms import EMPTY, nested


def read_pattern(text):
    # One level for the whole and one for each open bracket: its rows, lists of pieces.
    levels = [[[]]]
    place = 0
    while place < len(text):
        place = read_sign(text, place, levels)
    if len(levels) > 1:
        raise NoPattern(place)
    return rows_pattern(levels[0])


def rows_pattern(rows):
    return nested("or", [nested("then", pieces) if pieces else EMPTY for pieces in rows])


def read_sign(text, place, levels):
    sign = text[place]
    if sign == "(":
        levels.append([[]])
        return place + 1
    if sign == "|":
        levels[-1].append([])
        return place + 1
    read = read_piece(text, place, levels)
    end = read[1]
    mark = text[end:end + 1]
    if mark in ("*", "+", "?"):
        end += 1
    levels[-1][-1].append(marked(read[0], mark))
    return end


# The piece that ends with the sign at the place, or begins there, and the place behind it.
def read_piece(text, place, levels):
    sign = text[place]
    if sign == ")":
        if len(levels) == 1:
            raise NoPattern(place)
        return (rows_pattern(levels.pop()), place + 1)
    if sign == "[":
        return read_items(text, place + 1)
    if sign == "~":
        if place + 1 == len(text):
            raise NoPattern(place + 1)
        return (one_sign(text[place + 1]), place + 2)
    if sign in ("]", "*", "+", "?"):
        raise NoPattern(place)
    return (one_sign(sign), place + 1)


def one_sign(sign):
    return ("sign", sign, sign)


def marked(piece, mark):
    if mark == "*":
        return ("again", piece)
    if mark == "+":
        return ("then", piece, ("again", piece))
    if mark == "?":
        return ("or", piece, EMPTY)
    return piece


def read_items(text, place):
    items = []
    while not items or text[place:place + 1] != "]":
        read = read_item(text, place)
        items.append(read[0])
        place = read[1]
    return (nested("or", items), place + 1)


def read_item(text, place):
    low = read_item_sign(text, place)
    if text[low[1]:low[1] + 1] != "-":
        return (one_sign(low[0]), low[1])
    high = read_item_sign(text, low[1] + 1)
    if high[0] < low[0]:
        raise NoPattern(high[1] - 1)
    return (("sign", low[0], high[0]), high[1])


def read_item_sign(text, place):
    if text[place:place + 1] in ("", "]", "-"):
        raise NoPattern(place)
    if text[place] != "~":
        return (text[place], place + 1)
    if text[place + 1:place + 2] not in ("]", "-", "~"):
        raise NoPattern(place + 1)
    return (text[place + 1], place + 2)
