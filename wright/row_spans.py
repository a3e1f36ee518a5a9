"""The spans of a row: tuples (at, to) with 0 <= at <= to <= the number of its words."""


# The shorter ones first.
def spans_of(many):
    spans = []
    for length in range(many + 1):
        spans.extend([(at, at + length) for at in range(many - length + 1)])
    return spans
