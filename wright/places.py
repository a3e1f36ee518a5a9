"""Places, and lists of them: closed, and moved on by a part."""

from wright.rules import numbers_by_name


def part_at(grammar, place):
    parts = parts_of(grammar, place[0])
    return parts[place[1]] if place[1] < len(parts) else None


# The rule behind the rules has the number of all rules, and the start as its one part.
def parts_of(grammar, number):
    return grammar.rules[number][1] if number < len(grammar.rules) else (grammar.start(),)


def closed_list(grammar, places):
    numbers = numbers_by_name(grammar.rules)
    found = {}
    begun = {}
    waiting = list(places)
    while waiting:
        place = waiting.pop()
        if place not in found:
            found[place] = True
            name = part_at(grammar, place)
            if name in numbers:
                for text in texts_behind(grammar, place, begun):
                    waiting.extend([(number, 0, text) for number in numbers[name]])
    return sorted(found)


# The texts that begin what stands behind the part at the place's dot. Only the text ahead is unlike
# from place to place of one rule and dot: the words are told for the first of these alone.
def texts_behind(grammar, place, begun):
    table = grammar.begin_table
    behind = parts_of(grammar, place[0])[place[1] + 1:]
    texts = [place[2]] if table.all_empty(behind) else []
    if place[:2] not in begun:
        begun[place[:2]] = True
        texts.extend(table.first_words(behind))
    return texts


def moved_list(grammar, places, part):
    met = [place for place in places if part_at(grammar, place) == part]
    return closed_list(grammar, [(rule, dot + 1, ahead) for rule, dot, ahead in met])
