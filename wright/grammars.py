"""Grammars: rules and strengths, refused where a reader could not be made of them."""

from wright.begin_tables import BeginTable
from wright.grammar_faults import refuse_faults


class Grammar:
    def __init__(self, rules, strengths=None):
        self.rules = list(rules)
        self.strengths = [] if strengths is None else list(strengths)
        refuse_faults(self.rules, self.strengths)
        # Kept, since what begins parts is asked over and over.
        self.begin_table = BeginTable(self.rules)

    def start(self):
        return self.rules[0][0]
