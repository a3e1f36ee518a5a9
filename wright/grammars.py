"""Grammars: rules and strengths, refused where a reader could not be made of them."""

from wright.begin_tables import BeginTable
from wright.grammar_faults import refuse_faults
from wright.least_trees import LeastTrees
from wright.rules import standings_by_part


class Grammar:
    def __init__(self, rules, strengths=None):
        self.rules = list(rules)
        self.strengths = [] if strengths is None else list(strengths)
        refuse_faults(self.rules, self.strengths)
        # Found once, since they are asked over and over.
        self.standings = standings_by_part(self.rules)
        self.begin_table = BeginTable(self.rules)
        self.small_trees = LeastTrees(self.rules, self.begin_table)

    def start(self):
        return self.rules[0][0]
