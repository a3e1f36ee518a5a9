"""The refusals, each a class of its own.

An error that tells a list keeps a copy, so that it stays as it was when it was made.
"""


# Any refusal.
class WrightError(ValueError):
    pass


class NoPattern(WrightError):
    def __init__(self, place):
        WrightError.__init__(self, f"no written pattern begins with more than {place} signs of this text")
        self.place = place


class NoWord(WrightError):
    def __init__(self, place):
        WrightError.__init__(self, f"no pattern has a word at place {place}")
        self.place = place


class NoRow(WrightError):
    def __init__(self, row):
        WrightError.__init__(self, f"row {row} is none of a grammar")
        self.row = row


class NoRules(WrightError):
    pass


class Twice(WrightError):
    def __init__(self, word):
        WrightError.__init__(self, f"{word!r} stands twice among the strengths")
        self.word = word


class Endless(WrightError):
    def __init__(self, names):
        WrightError.__init__(self, f"these names have no tree: {names!r}")
        self.names = list(names)


class Unmet(WrightError):
    def __init__(self, names):
        WrightError.__init__(self, f"these names are in no tree of the start: {names!r}")
        self.names = list(names)


class Loop(WrightError):
    def __init__(self, steps):
        WrightError.__init__(self, f"a tree has itself below with the same row: {steps!r}")
        self.steps = list(steps)


class Vast(WrightError):
    def __init__(self, names):
        WrightError.__init__(self, f"these names have too large least trees or trees of no words: {names!r}")
        self.names = list(names)


class TooMany(WrightError):
    pass


class Clash(WrightError):
    def __init__(self, clashes):
        WrightError.__init__(self, f"these clashes are left: {clashes!r}")
        # The lists of deeds within are copied too.
        self.clashes = [(room, word, list(deeds)) for room, word, deeds in clashes]


class Refused(WrightError):
    def __init__(self, place):
        WrightError.__init__(self, f"the row is refused behind {place} words")
        self.place = place


class NoDeed(WrightError):
    pass
