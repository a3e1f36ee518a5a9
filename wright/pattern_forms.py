"""Patterns put together from others."""

NONE = ("none",)
EMPTY = ("empty",)


def nested(form, patterns):
    whole = patterns[-1]
    for one in reversed(patterns[:-1]):
        whole = (form, one, whole)
    return whole


def row_of_two(one, other):
    if one == EMPTY:
        return other
    return ("then", one, other)
