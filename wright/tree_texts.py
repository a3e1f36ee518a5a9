"""Trees written as texts."""


# With a list of what is still to be written, since trees may be deep.
def written_tree(rules, tree):
    pieces = []
    waiting = [tree]
    while waiting:
        one = waiting.pop()
        if isinstance(one, str):
            pieces.append(one)
        else:
            pieces.append(rules[one[0]][0] + "(")
            waiting.append(")")
            for at, child in enumerate(one[1][::-1]):
                if at > 0:
                    waiting.append(" ")
                waiting.append(child)
    return "".join(pieces)
