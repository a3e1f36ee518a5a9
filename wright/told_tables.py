"""What is wanting in a table told by anybody, place by place."""

from wright.begin_checks import words_told
from wright.rules import is_number_below, numbers_by_name


# The parts of each rule, and behind them those of the rule that has the number of all rules.
def parts_of_all(rules):
    return [parts for head, parts in rules] + [tuple([head for head, parts in rules[:1]])]


def is_place(every, place):
    return is_number_below(place[0], len(every)) and is_number_below(place[1], len(every[place[0]]) + 1)


class ToldTable:
    def __init__(self, rules, names, pairs, plan, deeds):
        self.every = parts_of_all(rules)
        self.numbers = numbers_by_name(rules)
        self.told_empty = dict([(name, True) for name in names])
        self.told_words = words_told(rules, pairs)
        self.places = [dict([(place, True) for place in room]) for room in plan[0]]
        # By room and part the rooms that steps lead to: of one part there may be several here.
        self.led_rooms = {}
        for room, part, to in plan[1]:
            self.led_rooms.setdefault((room, part), []).append(to)
        self.told_deeds = dict([(deed, True) for deed in deeds])
        self.step_words = dict([(deed[:2], True) for deed in deeds if deed[2][0] == "step"])
        self.begun = {}

    def lack_at(self, room, place):
        # A place that is none means nothing.
        if not is_place(self.every, place):
            return None
        parts = self.every[place[0]][place[1]:]
        if not parts:
            return None if self.deed_at_end(room, place) in self.told_deeds else ("deed", room, place)
        if parts[0] in self.numbers:
            begin = self.begin_wanting(room, place, parts)
            if begin is not None:
                return ("begin", room, begin)
        if not self.has_step(room, place, parts[0]):
            return ("step", room, place)
        if parts[0] not in self.numbers and (room, parts[0]) not in self.step_words:
            return ("deed", room, place)
        return None

    def deed_at_end(self, room, place):
        if place[0] == len(self.every) - 1:
            return (room, "", ("done",))
        return (room, place[2], ("make", place[0]))

    def has_step(self, room, place, part):
        moved = (place[0], place[1] + 1, place[2])
        rooms = self.led_rooms.get((room, part), [])
        return any([is_number_below(to, len(self.places)) and moved in self.places[to] for to in rooms])

    # The first place, by rules and then texts, that a place with a name at its dot asks for in vain.
    def begin_wanting(self, room, place, parts):
        texts = self.texts_behind(room, place, parts[1:])
        for number in self.numbers[parts[0]]:
            for text in texts:
                if (number, 0, text) not in self.places[room]:
                    return (number, 0, text)
        return None

    # Only the text ahead is unlike from place to place of one rule and dot: where the words behind one
    # of them were asked for, and nothing was wanting, they need not be for the others.
    def texts_behind(self, room, place, parts):
        texts = {}
        if all([part in self.told_empty for part in parts]):
            texts[place[2]] = True
        if (room, place[:2]) not in self.begun:
            self.begun[(room, place[:2])] = True
            for part in parts:
                texts.update(self.told_words.get(part, {part: True}))
                if part not in self.told_empty:
                    break
        return sorted(texts)
