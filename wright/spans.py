"""Whether a grammar makes a row, how many trees it has, and the first of them."""

from wright.span_tables import SpanTable


def makes(grammar, row):
    return count_trees(grammar, row) > 0


def count_trees(grammar, row):
    return SpanTable(grammar, row).count_whole()


def first_trees(grammar, row, most):
    table = SpanTable(grammar, row)
    return [table.whole_tree(ahead) for ahead in range(min(most, table.count_whole()))]
