"""Trees of the start that come by a way of parts to a deed, with a word next.

The parts of the way stand ahead of the deed as least trees, the same for each deed: so the deeds of
all these trees are alike up to there. From the deed's own part it goes outwards: the part stands at a
dot of some rule whose parts ahead of the dot are the last ones of the way, and so on with this rule's
head and what is left of the way, up to the start. What stands behind a dot is free, but that the word
comes next where a make asks for it.
"""


class PaperTrees:
    def __init__(self, grammar, way, word):
        self.rules = grammar.rules
        self.standings = grammar.standings
        self.begin_table = grammar.begin_table
        self.small_trees = grammar.small_trees
        self.way_parts = tuple(way)
        self.way_trees = self.small_trees.least_of(way)
        self.word = word
        # The nodes of the whole tree: nothing comes behind it.
        self.outermost = [(0, grammar.start(), False)]
        if word == "":
            self.outermost.append((0, grammar.start(), True))

    # Done has no clash: the other tree would have the start below itself with the same row, a loop.
    def tree_with(self, deed):
        here = len(self.way_parts)
        if deed[0] == "step":
            return self.tree_around(self.word, (here, self.word, False))
        rule = self.rules[deed[1]]
        begun = here - len(rule[1])
        return self.tree_around((deed[1], tuple(self.way_trees[begun:])), (begun, rule[0], True))

    # A node is a tuple (at, part, asked): the part stands behind so many parts of the way, and the word
    # has to come next behind it where asked is True.
    def tree_around(self, tree, node):
        for number, dot, at, how in self.frames_around(node):
            behind = self.trees_behind(self.rules[number][1][dot + 1:], how)
            tree = (number, tuple(self.way_trees[at - dot:at] + [tree] + behind))
        return tree

    def trees_behind(self, parts, how):
        if how == "empty":
            return self.small_trees.hollow_of(parts)
        if how == "word":
            return self.small_trees.begun_of(parts, self.word, self.small_trees.begun_place(parts, self.word))
        return self.small_trees.least_of(parts)

    # From the innermost on. Nodes are gone through by how many frames they are away, so the frames are
    # as few as can be.
    def frames_around(self, node):
        nodes = [node]
        frames = {node: None}
        at = 0
        while node not in self.outermost:
            for frame in self.frames_of(node):
                outer = (frame[2] - frame[1], self.rules[frame[0]][0], frame[3] == "empty")
                if outer not in frames:
                    frames[outer] = (frame, node)
                    nodes.append(outer)
            at += 1
            node = nodes[at]
        return frames_back(frames, node)

    # Frames are tuples (rule, dot, at, how): the rule's part at the dot stands behind so many parts of
    # the way; how tells what stands behind this part: nothing, the word first, or anything.
    def frames_of(self, node):
        at = node[0]
        frames = []
        for number, dot in self.standings.get(node[1], []):
            parts = self.rules[number][1]
            if dot <= at and parts[:dot] == self.way_parts[at - dot:at]:
                how = self.how_behind(parts[dot + 1:], node[2])
                if how is not None:
                    frames.append((number, dot, at, how))
        return frames

    def how_behind(self, parts, asked):
        if not asked:
            return "any"
        if self.small_trees.begun_place(parts, self.word) is not None:
            return "word"
        return "empty" if self.begin_table.all_empty(parts) else None


def frames_back(frames, node):
    told = []
    while frames[node] is not None:
        told.append(frames[node][0])
        node = frames[node][1]
    return told[::-1]
