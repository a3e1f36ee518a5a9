"""What can be empty, and what can begin, told of a grammar."""


def empties_of(grammar):
    return list(grammar.begin_table.empties)


def begins_of(grammar):
    return list(grammar.begin_table.begins)


def begin_words(grammar, parts, ahead):
    return grammar.begin_table.words_of_parts(parts, ahead)
