"""Walks through a text by a pattern, sign after sign.

A state is a list of cells, one of which the rest of a text must be of. Each state is made when
it is first come to, and each step by a sign is kept: long texts come to the same states again.
"""

from wright.pattern_cells import Cells


class Walk:
    def __init__(self, pattern):
        self.cells = Cells()
        self.states = {}
        self.arms = []
        self.ends = []
        self.after = []
        self.first = self.state_of([self.cells.put(pattern, 0)])

    def state_of(self, cells):
        key = tuple(cells)
        if key not in self.states:
            self.states[key] = len(self.arms)
            self.make_state(cells)
        return self.states[key]

    def make_state(self, cells):
        arms = []
        seen = {}
        waiting = list(cells)
        while waiting:
            cell = waiting.pop()
            if cell not in seen:
                seen[cell] = True
                moves = self.cells.moves(cell)
                arms.extend(moves[0])
                waiting.extend(moves[1])
        self.arms.append(arms)
        self.ends.append(0 in seen)
        self.after.append({})

    def cells_behind(self, state, sign):
        return sorted(set([cell for low, high, cell in self.arms[state] if low <= sign <= high]))

    def step(self, state, sign):
        known = self.after[state]
        if sign not in known:
            known[sign] = self.state_of(self.cells_behind(state, sign))
        return known[sign]

    def takes(self, text):
        state = self.first
        for sign in text:
            state = self.step(state, sign)
        return self.ends[state]

    # The longest word at a place of a text, -1 where there is none. `spent` keeps, for further calls
    # with the same text, at which places and states no end comes any more: without it a text could
    # be walked to its end anew from each of its places.
    def longest_word(self, text, at, spent):
        best = -1
        trail = []
        place = at
        state = self.first
        while True:
            if self.ends[state]:
                best = place - at
                trail = []
            if place == len(text) or not self.arms[state] or (place, state) in spent:
                break
            trail.append((place, state))
            state = self.step(state, text[place])
            place += 1
        for pair in trail:
            spent[pair] = True
        return best
