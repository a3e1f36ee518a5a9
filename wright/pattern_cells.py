"""What is still to come of a pattern, kept as cells.

A cell is a pattern (its front) with the cell behind it; cell 0 is the end. The texts of a cell are
those of its front with those of the cell behind it. Like cells have one number, and a cell has a
greater number than the one behind it. A pattern has at most as many cells as parts and one, and
what is left of it by any signs has the very same cells: so rests don't grow from sign to sign.
"""

from wright.pattern_forms import EMPTY


class Cells:
    def __init__(self):
        self.fronts = [EMPTY]
        self.behinds = [0]
        self.numbers = {}
        self.known = {}

    def number_of(self, front, behind):
        key = (front, behind)
        number = self.numbers.get(key)
        if number is None:
            number = len(self.fronts)
            self.numbers[key] = number
            self.fronts.append(front)
            self.behinds.append(behind)
        return number

    def put(self, pattern, behind):
        # What stands in a row is taken apart, so that rests with like ends have the same cells.
        waiting = [pattern]
        while waiting:
            one = waiting.pop()
            if one[0] == "then":
                waiting.append(one[1])
                waiting.append(one[2])
            elif one[0] != "empty":
                behind = self.number_of(again_once(one), behind)
        return behind

    # The arms of a cell, tuples (low, high, cell): by one sign from low to high it goes on to the cell;
    # and the cells that it goes on to without a sign.
    def moves(self, cell):
        if cell not in self.known:
            self.known[cell] = self.made_moves(cell)
        return self.known[cell]

    def made_moves(self, cell):
        if cell == 0:
            return ([], [])
        front = self.fronts[cell]
        behind = self.behinds[cell]
        if front[0] == "again":
            moves = self.spread(front[1], cell)
            return (moves[0], moves[1] + [behind])
        return self.spread(front, behind)

    def spread(self, pattern, behind):
        arms = []
        cells = []
        waiting = [(pattern, behind)]
        while waiting:
            pair = waiting.pop()
            one = pair[0]
            behind = pair[1]
            if one[0] == "sign":
                arms.append((one[1], one[2], behind))
            elif one[0] == "then":
                waiting.append((one[1], self.put(one[2], behind)))
            elif one[0] == "or":
                waiting.append((one[2], behind))
                waiting.append((one[1], behind))
            elif one[0] != "none":
                cells.append(self.put(one, behind))
        return (arms, cells)


def again_once(pattern):
    # "again" right within "again" has the same texts, and would only make rests longer.
    while pattern[0] == "again" and pattern[1][0] == "again":
        pattern = pattern[1]
    return pattern
