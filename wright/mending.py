"""Rows mended at the least price, and papers of what parts cost at the least."""

from wright.deed_trees import tree_of
from wright.mend_tables import MendTable, drops_of, word_changes


def mended_row(grammar, row, prices):
    table = MendTable(grammar.rules, row, prices)
    changes = []
    deeds = []
    # Parts with their spans, and deeds, which are the shorter tuples; the next one stands last.
    waiting = [("done",), (grammar.start(), 0, len(row))]
    while waiting:
        one = waiting.pop()
        if len(one) < 3:
            deeds.append(one)
        elif one[0] in table.numbers:
            number = table.cheapest_rule(one[0], one[1], one[2])
            waiting.append(("make", number))
            waiting.extend(table.cheapest_parts(number, one[1], one[2]))
        elif one[0] == "":
            changes.extend(drops_of(row[one[1]:one[2]]))
        else:
            changes.extend(word_changes(one[0], row[one[1]:one[2]], prices))
            deeds.append(("step", one[0]))
    price = table.part_costs[(grammar.start(), 0, len(row))][0]
    return (price, changes, tree_of(grammar.rules, deeds))


def mend_paper(grammar, row, prices):
    table = MendTable(grammar.rules, row, prices)
    names = [key + (cost[0],) for key, cost in table.part_costs.items() if key[0] in table.numbers]
    rules = [key + (cost[0],) for key, cost in table.dot_costs.items()]
    return (sorted(names), sorted(rules))
