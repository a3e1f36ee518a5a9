"""Plain second answers to hold the program against, and makers of inputs."""

import random
import time

NONE = ("none",)
EMPTY = ("empty",)


def sign(low, high=None):
    return ("sign", low, low if high is None else high)


def then(one, other):
    return ("then", one, other)


def either(one, other):
    return ("or", one, other)


def again(one):
    return ("again", one)


def texts_of(pattern, signs, most):
    """All texts of the pattern over these signs of at most so many signs, by the words of point 4."""
    form = pattern[0]
    if form == "none":
        return set()
    if form == "empty":
        return {""}
    if form == "sign":
        return {c for c in signs if pattern[1] <= c <= pattern[2]} if most else set()
    if form == "or":
        return texts_of(pattern[1], signs, most) | texts_of(pattern[2], signs, most)
    if form == "then":
        return joined(texts_of(pattern[1], signs, most), texts_of(pattern[2], signs, most), most)
    ones = texts_of(pattern[1], signs, most)
    found = {""}
    while True:
        more = found | joined(found, ones, most)
        if more == found:
            return found
        found = more


def joined(ones, others, most):
    return {one + other for one in ones for other in others if len(one + other) <= most}


def all_texts(signs, most):
    told = [""]
    last = [""]
    for _ in range(most):
        last = [text + c for text in last for c in signs]
        told += last
    return told


def chance_pattern(chance, parts, signs):
    """A pattern of about so many parts, the same for the same state of `chance`."""
    if parts <= 1:
        form = chance.randrange(12)
        if form == 0:
            return NONE
        if form == 1:
            return EMPTY
        low, high = sorted((chance.choice(signs), chance.choice(signs)))
        return ("sign", low, high if form < 5 else low)
    if parts == 2 or chance.randrange(4) == 0:
        return again(chance_pattern(chance, parts - 1, signs))
    left = chance.randrange(1, parts - 1)
    form = chance.choice(("then", "then", "or"))
    return (form, chance_pattern(chance, left, signs), chance_pattern(chance, parts - 1 - left, signs))


def chance_patterns(seed, many, parts, signs):
    chance = random.Random(seed)
    return [chance_pattern(chance, chance.randrange(1, parts + 1), signs) for _ in range(many)]


def chance_text(seed, many, signs):
    chance = random.Random(seed)
    return "".join(chance.choice(signs) for _ in range(many))


def count_parts(pattern):
    waiting = [pattern]
    many = 0
    while waiting:
        one = waiting.pop()
        many += 1
        waiting += [part for part in one[1:] if isinstance(part, tuple)]
    return many


def deep_patterns():
    """Patterns of nearly 200 parts, deep to one side, with "again" within "again"."""
    told = {
        "again": sign("a"),
        "again then, left": sign("a"),
        "again then, right": sign("a"),
        "again or": sign("a"),
        "again perhaps": sign("a"),
        "perhaps, left": sign("a"),
        "perhaps, right": sign("a"),
        "then, left": then(again(sign("a", "b")), sign("a")),
        "then, right": again(sign("a", "b")),
        "or, left": sign("a"),
    }
    for step in range(199):
        told["again"] = again(told["again"])
    for step in range(66):
        c = sign("abc"[step % 3])
        told["again then, left"] = again(then(told["again then, left"], c))
        told["again then, right"] = again(then(sign("a"), told["again then, right"]))
        told["again or"] = again(either(told["again or"], c))
        told["again perhaps"] = again(either(told["again perhaps"], EMPTY))
    for step in range(49):
        perhaps = either(sign("a"), EMPTY)
        told["perhaps, left"] = then(told["perhaps, left"], perhaps)
        told["perhaps, right"] = then(perhaps, told["perhaps, right"])
    for step in range(97):
        told["then, left"] = then(told["then, left"], sign("a", "b"))
        told["then, right"] = then(sign("a", "b"), told["then, right"])
        told["or, left"] = either(told["or, left"], sign("abc"[step % 3]))
    told["or, left"] = again(told["or, left"])
    return told


class Soon:
    """`with Soon(self, seconds):` fails the test where what is within takes longer."""

    def __init__(self, case, seconds):
        self.case = case
        self.seconds = seconds

    def __enter__(self):
        self.begun = time.process_time()

    def __exit__(self, kind, error, trace):
        if kind is None:
            self.case.assertLess(time.process_time() - self.begun, self.seconds)


def head_order(rules):
    told = []
    for head, parts in rules:
        if head not in told:
            told.append(head)
    return told


def first_rows(rules):
    """For each name the rows of its trees, cut behind their first word: () and (word,), by the words of point 10."""
    rows = {head: set() for head, parts in rules}
    while True:
        many = sum(len(found) for found in rows.values())
        for head, parts in rules:
            made = {()}
            for part in parts:
                made = {(one + other)[:1] for one in made for other in rows.get(part, {(part,)})}
            rows[head] |= made
        if sum(len(found) for found in rows.values()) == many:
            return rows


def sizes_of_trees(rules, above, with_words):
    """For each name the sizes of its trees (of those of no words alone), all those above `above` as above + 1."""
    sizes = {head: set() for head, parts in rules}
    word_sizes = {0} if with_words else set()
    while True:
        many = sum(len(found) for found in sizes.values())
        for head, parts in rules:
            made = {1}
            for part in parts:
                made = {min(one + other, above + 1) for one in made for other in sizes.get(part, word_sizes)}
            sizes[head] |= made
        if sum(len(found) for found in sizes.values()) == many:
            return sizes


def names_below(rules, empty, like_rows):
    """All pairs (name, name) of a name and one in its trees, or in those trees with a like row alone."""
    pairs = set()
    names = head_order(rules)
    for head, parts in rules:
        for place, part in enumerate(parts):
            others = parts[:place] + parts[place + 1:]
            if part in names and (not like_rows or all(other in empty for other in others)):
                pairs.add((head, part))
    for middle in names:
        for one in names:
            for other in names:
                if (one, middle) in pairs and (middle, other) in pairs:
                    pairs.add((one, other))
    return pairs


def plain_fault(rules):
    """The name of the first refusal of point 11 that the rules have, and its names (None of a loop); else None."""
    names = head_order(rules)
    if not rules:
        return ("NoRules", None)
    rows = first_rows(rules)
    endless = [name for name in names if not rows[name]]
    if endless:
        return ("Endless", endless)
    empty = [name for name in names if () in rows[name]]
    unmet = [name for name in names[1:] if (names[0], name) not in names_below(rules, empty, False)]
    if unmet:
        return ("Unmet", unmet)
    if any(one == other for one, other in names_below(rules, empty, True)):
        return ("Loop", None)
    trees = sizes_of_trees(rules, 60, True)
    empty_trees = sizes_of_trees(rules, 60, False)
    vast = [name for name in names if 61 in empty_trees[name] or trees[name] == {61}]
    return ("Vast", vast) if vast else None


def steps_are_a_loop(rules, steps):
    """Whether the steps are as point 11 asks of those of a Loop."""
    empty = [name for name, rows in first_rows(rules).items() if () in rows]
    if not 1 <= len(steps) <= 100:
        return False
    for at, (number, place) in enumerate(steps):
        if number not in range(len(rules)) or place not in range(len(rules[number][1])):
            return False
        parts = rules[number][1]
        if parts[place] != rules[steps[(at + 1) % len(steps)][0]][0]:
            return False
        if not all(other in empty for other in parts[:place] + parts[place + 1:]):
            return False
    return True


def chance_rules(chance, most_rules, most_parts, names, words):
    """A list of rules, the same for the same state of `chance`; perhaps one that is refused."""
    told = [("A", tuple(chance.choices(names + words, k=chance.randrange(most_parts + 1))))]
    for _ in range(chance.randrange(most_rules)):
        parts = chance.choices(names + words, k=chance.randrange(most_parts + 1))
        told.append((chance.choice(names), tuple(parts)))
    return told


def chance_rule_lists(seed, many, most_rules=8, most_parts=4, names="ABCD", words="xyz"):
    chance = random.Random(seed)
    return [chance_rules(chance, most_rules, most_parts, list(names), list(words)) for _ in range(many)]


def empty_names(rules):
    return [name for name, rows in first_rows(rules).items() if () in rows]


class PlainTrees:
    """All trees of names with rows (tuples), by the words of point 10. To be asked of rules without a loop."""

    def __init__(self, rules):
        self.rules = rules
        self.heads = head_order(rules)
        self.empty = empty_names(rules)
        self.known = {}

    def of(self, name, row):
        if (name, row) not in self.known:
            self.known[name, row] = [
                (number, children) for number, (head, parts) in enumerate(self.rules) if head == name
                for children in self.children(parts, row)]
        return self.known[name, row]

    def children(self, parts, row):
        if not parts:
            return [] if row else [()]
        told = []
        for cut in range(len(row) + 1):
            # What is in vain is not looked at: looking would not end where a name begins or ends by itself.
            if cut == 0 and parts[0] not in self.empty:
                continue
            if cut == len(row) and not all(part in self.empty for part in parts[1:]):
                continue
            rests = self.children(parts[1:], row[cut:])
            if rests:
                told += [(first,) + rest for first in self.child(parts[0], row[:cut]) for rest in rests]
        return told

    def child(self, part, row):
        if part in self.heads:
            return self.of(part, row)
        return [part] if row == (part,) else []


def plain_row(tree):
    return [tree] if isinstance(tree, str) else [word for child in tree[1] for word in plain_row(child)]


def tree_order(one, other):
    """Below nought where the one comes first by point 19, nought where they are alike, else above nought."""
    if one == other:
        return 0
    if one[0] != other[0]:
        return one[0] - other[0]
    for child, beside in zip(one[1], other[1]):
        if child != beside:
            return len(plain_row(child)) - len(plain_row(beside)) or tree_order(child, beside)


def plain_stands(rules, tree, name):
    """Whether it is a tree of the name, by the words of point 10."""
    if isinstance(tree, str) or isinstance(tree[0], bool) or tree[0] not in range(len(rules)):
        return False
    head, parts = rules[tree[0]]
    heads = head_order(rules)
    return head == name and len(parts) == len(tree[1]) and all(
        plain_stands(rules, child, part) if part in heads else child == part
        for child, part in zip(tree[1], parts))


def plain_sets(rules, beginning):
    """The sets of places by the words of point 21, in rounds until nothing new stands in any."""
    heads = head_order(rules)
    sets = [set() for _ in range(len(beginning) + 1)]
    sets[0] = {(number, 0, 0) for number, rule in enumerate(rules) if rule[0] == rules[0][0]}
    while True:
        many = sum(len(found) for found in sets)
        for here, found in enumerate(sets):
            for number, dot, since in list(found):
                head, parts = rules[number]
                if dot == len(parts):
                    found |= {(other, at + 1, ago) for other, at, ago in sets[since]
                              if rules[other][1][at:at + 1] == (head,)}
                elif parts[dot] in heads:
                    found |= {(other, 0, here) for other, rule in enumerate(rules) if rule[0] == parts[dot]}
                elif beginning[here:here + 1] == [parts[dot]]:
                    sets[here + 1].add((number, dot + 1, since))
        if sum(len(found) for found in sets) == many:
            return [sorted(found) for found in sets]


def plain_closed(rules, places):
    """The closed list of places by the words of point 23, in rounds until nothing new is added."""
    rows = first_rows(rules)
    every = rules + [("", (rules[0][0],))]
    found = set(places)
    while True:
        many = len(found)
        for number, dot, ahead in list(found):
            parts = every[number][1]
            if dot < len(parts) and parts[dot] in rows:
                made = {()}
                for part in parts[dot + 1:]:
                    made = {(one + other)[:1] for one in made for other in rows.get(part, {(part,)})}
                found |= {(other, 0, (one + (ahead,))[0]) for other, rule in enumerate(rules)
                          if rule[0] == parts[dot] for one in made}
        if len(found) == many:
            return sorted(found)


def sound_lists(seed, many, *sizes):
    """Chance lists of rules that no refusal of point 11 holds of."""
    return [rules for rules in chance_rule_lists(seed, many, *sizes) if plain_fault(rules) is None]


def chance_rows(seed, many, most, words):
    chance = random.Random(seed)
    return [chance.choices(words, k=chance.randrange(most + 1)) for _ in range(many)]


def plain_rooms(rules, most_rooms=120, most_places=300):
    """Rooms and steps by the words of point 25; None where there are too many."""
    every = rules + [("", (rules[0][0],))]
    rooms = [plain_closed(rules, [(len(rules), 0, "")])]
    steps = []
    for at, room in enumerate(rooms):
        if at == most_rooms or len(room) > most_places:
            return None
        for part in sorted({every[number][1][dot] for number, dot, ahead in room if dot < len(every[number][1])}):
            moved = plain_closed(rules, [(number, dot + 1, ahead) for number, dot, ahead in room
                                         if every[number][1][dot:dot + 1] == (part,)])
            if moved not in rooms:
                rooms.append(moved)
            steps.append((at, part, rooms.index(moved)))
    return rooms, steps


def plain_deeds(rules, plan):
    """The deeds of a plan by the words of point 26."""
    every = rules + [("", (rules[0][0],))]
    told = {(room, part, ("step", to)) for room, part, to in plan[1] if part not in head_order(rules)}
    for number, room in enumerate(plan[0]):
        for rule, dot, ahead in room:
            if rule == len(rules) and dot == 1:
                told.add((number, "", ("done",)))
            elif dot == len(every[rule][1]):
                told.add((number, ahead, ("make", rule)))
    return sorted(told)


def plain_tree_deeds(tree):
    """The deeds of a tree but its done, by the words of point 29."""
    if isinstance(tree, str):
        return [("step", tree)]
    return [deed for child in tree[1] for deed in plain_tree_deeds(child)] + [("make", tree[0])]


def plain_paper(rules, paper, word, one, other):
    """Whether the paper stands, by the words of point 30."""
    if not all(plain_stands(rules, tree, rules[0][0]) for tree in paper):
        return False
    first, second = [plain_tree_deeds(tree) + [("done",)] for tree in paper]
    for at in range(min(len(first), len(second))):
        if first[:at] == second[:at] and first[at] == one and second[at] == other and one != other:
            behind = [[deed[1] for deed in deeds[at:] if deed[0] == "step"] + [""] for deeds in (first, second)]
            return behind[0][0] == word and behind[1][0] == word
    return False


def wide_rules(texts, rules):
    """Rules of N, so many of them, whose room has each of them with each of so many texts ahead."""
    return [("N", ("N", f"w{at}")) for at in range(texts - 1)] + [("N", (f"x{at}",)) for at in range(rules - texts + 1)]


def long_rules(parts):
    """A chain of rules with so many parts in all, six in each but the last; its rooms are two more than its parts."""
    told = []
    while parts > 6:
        told.append((f"N{len(told)}", ("a", "b", "c", "d", "e", f"N{len(told) + 1}")))
        parts -= 6
    return told + [(f"N{len(told)}", ("a", "b", "c", "d", "e", "f")[:parts])]


def plain_joined(plan):
    """The joined plan and the numbers by the words of point 32."""
    cores = [sorted({(rule, dot) for rule, dot, ahead in room}) for room in plan[0]]
    firsts = [at for at, core in enumerate(cores) if cores.index(core) == at]
    numbers = [firsts.index(cores.index(core)) for core in cores]
    rooms = [sorted({place for room, core in zip(plan[0], cores) if core == cores[first] for place in room})
             for first in firsts]
    return (rooms, sorted({(numbers[room], part, numbers[to]) for room, part, to in plan[1]})), numbers


def plain_table_stands(rules, plan, deeds):
    """Whether the table stands, by the words of points 34 and 35."""
    rooms, steps = plan
    if not rules or not rooms:
        return False
    last = len(rules)
    parts = [rule[1] for rule in rules] + [(rules[0][0],)]
    numbers = range(len(rooms))
    every = [(room, place) for room in numbers for place in rooms[room]]
    if not all(rule in range(last + 1) and dot in range(len(parts[rule]) + 1) for room, (rule, dot, ahead) in every):
        return False
    if not all(room in numbers and to in numbers for room, part, to in steps):
        return False
    if not all(deed[0] in numbers for deed in deeds):
        return False
    if any(one[:2] == other[:2] for at, one in enumerate(steps) for other in steps[:at]):
        return False
    if any(to == 0 for room, part, to in steps) or any(dot for rule, dot, ahead in rooms[0]):
        return False
    if any(rule == last and (ahead != "" or dot == 0 and room != 0) for room, (rule, dot, ahead) in every):
        return False
    for room, (rule, dot, ahead) in every:
        for before, part, to in steps:
            if dot > 0 and to == room:
                if part != parts[rule][dot - 1] or (rule, dot - 1) not in [place[:2] for place in rooms[before]]:
                    return False
    if any(one[:2] == other[:2] for at, one in enumerate(deeds) for other in deeds[:at]):
        return False
    for room, word, deed in deeds:
        if deed[0] == "step":
            told = (room, word, deed[1]) in steps and word not in head_order(rules) + [""]
        elif deed[0] == "make":
            told = deed[1] in range(last) and (deed[1], len(parts[deed[1]]), word) in rooms[room]
        else:
            told = word == "" and (last, 1, "") in rooms[room]
        if not told:
            return False
    return True


def plain_begin_texts(rules, names, pairs, parts, ahead):
    """What begins the parts with a text ahead of what comes, by point 18 and told names and pairs."""
    told = set()
    for at, part in enumerate(parts + (None,)):
        if all(one in names for one in parts[:at]):
            if part is None:
                told.add(ahead)
            elif part in head_order(rules):
                told |= {word for name, word in pairs if name == part}
            else:
                told.add(part)
    return sorted(told)


def plain_table_lacks(rules, names, pairs, plan, deeds):
    """What the table lacks, by the words of point 36."""
    rooms, steps = plan
    last = len(rules)
    heads = head_order(rules)
    if not rooms or (last, 0, "") not in rooms[0]:
        return ("begin", 0, (last, 0, ""))
    for number, room in enumerate(rooms):
        for place in room:
            rule, dot, ahead = place
            parts = (rules[rule][1] if rule < last else (heads[0],))[dot:]
            if parts and parts[0] in heads:
                texts = plain_begin_texts(rules, names, pairs, parts[1:], ahead)
                wanting = [(other, 0, text) for other in range(last) if rules[other][0] == parts[0] for text in texts
                           if (other, 0, text) not in room]
                if wanting:
                    return ("begin", number, wanting[0])
            if parts:
                if not any((rule, dot + 1, ahead) in rooms[to] for one, part, to in steps
                           if (one, part) == (number, parts[0])):
                    return ("step", number, place)
                if parts[0] not in heads and not any(
                        deed[0] == "step" for one, word, deed in deeds if (one, word) == (number, parts[0])):
                    return ("deed", number, place)
            elif ((number, "", ("done",)) if rule == last else (number, ahead, ("make", rule))) not in deeds:
                return ("deed", number, place)
    return None


def plain_reading(rules, plan, deeds, row):
    """The deeds done and the tree, a number (the place of a refusal), or None (too many deeds), by point 38."""
    pile = [0]
    done = []
    rest = list(row)
    while len(done) < 4000:
        word = (rest + [""])[0]
        told = [deed for room, one, deed in deeds if (room, one) == (pile[-1], word)]
        if not told:
            return len(row) - len(rest)
        if told[0][0] == "done":
            return done + [("done",)], pile[-2]
        if told[0][0] == "step":
            pile += [rest.pop(0), told[0][1]]
            done.append(("step", word))
        else:
            head, parts = rules[told[0][1]]
            cut = len(pile) - 2 * len(parts)
            leads = [to for room, part, to in plan[1] if (room, part) == (pile[cut - 1], head)]
            if not leads:
                return len(row) - len(rest)
            pile[cut:] = [(told[0][1], tuple(pile[cut::2])), leads[0]]
            done.append(told[0])
    return None


def chance_table(chance, rules, plan, deeds):
    """A plan and deeds with some changes by chance, in another order; perhaps such as don't stand."""
    rooms, steps, deeds = [list(room) for room in plan[0]], list(plan[1]), list(deeds)
    words = ["", "A", "x", "y", "z"]

    def place():
        return (chance.randrange(-1, len(rules) + 2), chance.randrange(-1, 5), chance.choice(words))

    def room():
        return chance.randrange(-1, len(rooms) + 1)

    def deed():
        return chance.choice([("done",), ("step", room()), ("make", chance.randrange(-1, len(rules) + 2))])

    def item(told, fresh):
        # The tuple with one of its values taken from the fresh one.
        at = chance.randrange(len(told))
        return told[:at] + fresh[at:at + 1] + told[at + 1:]

    for _ in range(chance.choice([0, 1, 1, 1, 2, 3])):
        lists = [one for one in rooms + [steps, deeds] if one]
        one = chance.choice(lists + [steps, deeds]) if lists else steps
        at = chance.randrange(len(one)) if one else 0
        form = chance.randrange(6)
        if form == 0 and one:
            one.pop(at)
        elif form == 1 and one:
            one.append(one[at])
        elif form == 2:
            rooms.append(list(chance.choice(rooms)))
            if steps:
                # A step led to the like room.
                step = steps.pop(chance.randrange(len(steps)))
                rooms[-1] = list(rooms[step[2]]) if 0 <= step[2] < len(rooms) else []
                steps.append((step[0], step[1], len(rooms) - 1))
        elif form == 3:
            chance.choice(rooms).append(place())
        elif one:
            fresh = place()
            if one is steps:
                fresh = (room(), chance.choice(words[1:]), room())
            elif one is deeds:
                fresh = (room(), chance.choice(words), deed())
            one[at] = item(one[at], fresh)
    for one in rooms + [steps, deeds]:
        chance.shuffle(one)
    return (rooms, steps), deeds


def plain_wanting(rules, beginning, sets):
    """All tuples (set, tuple) that the sets lack, by the words of point 41."""
    heads = head_order(rules)
    meant = [{one for one in told if one[0] in range(len(rules)) and one[1] in range(len(rules[one[0]][1]) + 1)
              and one[2] in range(at + 1)} for at, told in enumerate(sets)]
    wanted = {(0, (number, 0, 0)) for number, rule in enumerate(rules) if rule[0] == heads[0]}
    for at, told in enumerate(meant):
        for number, dot, since in told:
            head, parts = rules[number]
            if dot == len(parts):
                wanted |= {(at, (other, dots + 1, ago)) for other, dots, ago in meant[since]
                           if rules[other][1][dots:dots + 1] == (head,)}
            elif parts[dot] in heads:
                wanted |= {(at, (other, 0, at)) for other, rule in enumerate(rules) if rule[0] == parts[dot]}
            elif beginning[at:at + 1] == [parts[dot]]:
                wanted.add((at + 1, (number, dot + 1, since)))
    return {(at, one) for at, one in wanted if one not in meant[at]}


def plain_refusal_stands(rules, row, refusal):
    """Whether the refusal stands, by the words of point 42."""
    place, sets = refusal
    if place not in range(len(row) + 1) or len(sets) != place + 1 or plain_wanting(rules, row[:place], sets):
        return False
    for number, dot, since in sets[-1]:
        if number in range(len(rules)) and dot in range(len(rules[number][1]) + 1) and since in range(place + 1):
            head, parts = rules[number]
            if place < len(row):
                if parts[dot:dot + 1] == (row[place],) and row[place] not in head_order(rules):
                    return False
            elif dot == len(parts) and since == 0 and head == rules[0][0]:
                return False
    return True


def plain_rows(rules, most):
    """All rows of the start of at most so many words, as tuples, by the words of point 10."""
    rows = {head: set() for head, parts in rules}
    while True:
        many = sum(len(found) for found in rows.values())
        for head, parts in rules:
            made = {()}
            for part in parts:
                made = {one + other for one in made for other in rows.get(part, {(part,)})
                        if len(one + other) <= most}
            rows[head] |= made
        if sum(len(found) for found in rows.values()) == many:
            return sorted(rows[rules[0][0]])


def plain_price(row, other, prices):
    """The least price of changes that make the other row of the row, by the words of point 43."""
    put, drop, change = prices
    last = [put * many for many in range(len(other) + 1)]
    for word in row:
        told = [last[0] + drop]
        for at, beside in enumerate(other):
            told.append(min(last[at + 1] + drop, told[at] + put, last[at] + (0 if word == beside else change)))
        last = told
    return last[-1]


def plain_part_price(rules, row, prices, names, part, at, to):
    """The price of a part from a place to another one, by the words of point 45 and told prices of names."""
    put, drop, change = prices
    many = to - at
    if part in head_order(rules):
        return names[part, at, to]
    told = [put + drop * many]
    if many:
        told.append(change + drop * (many - 1))
    if part in row[at:to]:
        told.append(drop * (many - 1))
    return min(told)


def plain_paper_wanting(rules, row, prices, paper):
    """All that the paper lacks, by the words of point 45."""
    names = {told[:3]: told[3] for told in paper[0]}
    dots = {told[:4]: told[4] for told in paper[1]}
    spans = [(i, j) for i in range(len(row) + 1) for j in range(i, len(row) + 1)]
    told = set()
    for rule, (head, parts) in enumerate(rules):
        told |= {(rule, i, j) for i, j in spans if dots[rule, 0, i, j] > prices[1] * (j - i)}
        told |= {(rule, i, k, 0, 0, 0) for i, k in spans if names[head, i, k] > dots[rule, len(parts), i, k]}
        for dot, part in enumerate(parts):
            told |= {(rule, dot, i, j, k) for i, j in spans for k in range(j, len(row) + 1)
                     if dots[rule, dot + 1, i, k] > dots[rule, dot, i, j]
                     + plain_part_price(rules, row, prices, names, part, j, k)}
    return told


class PlainKeeper:
    """A keeper by the words of point 47: each word of a row has a number of its own, by which it is known again."""

    def __init__(self, rules, plan, deeds, row):
        self.rules = rules
        self.leads = {(room, part): to for room, part, to in plan[1]}
        self.deeds = {(room, word): deed for room, word, deed in deeds}
        self.fresh = 0
        self.row = self.numbered(row)
        self.kept = []
        self.read(self.row)

    def numbered(self, words):
        self.fresh += len(words)
        return [(self.fresh - len(words) + at, word) for at, word in enumerate(words)]

    def change(self, at, many, words):
        """The tree and how many words were stepped; a number, the place, where the row is refused."""
        row = list(self.row)
        row[at:at + many] = self.numbered(words)
        return self.read(row)

    def kept_at(self, room, rest):
        """The kept tree with which the rest of the row begins: the longest, of these the one made last."""
        best = None
        for one in self.kept:
            first, words, behind, tree = one
            fits = first == room and words and rest[:len(words)] == words
            if fits and [word for number, word in (rest + [(None, "")])[len(words):][:1]] == [behind]:
                if best is None or len(words) >= len(best[1]):
                    best = one
        return best

    def read(self, row):
        pile = [(0, None, [])]
        rest = list(row)
        stepped = 0
        made = []
        while True:
            room = pile[-1][0]
            word = rest[0][1] if rest else ""
            best = self.kept_at(room, rest)
            if best is not None:
                rest = rest[len(best[1]):]
                pile.append((self.leads[room, self.rules[best[3][0]][0]], best[3], best[1]))
                # Its trees are those whose words are among its own, made ahead of it; trees beside it have others.
                own = [one for one in self.kept[:self.kept.index(best) + 1] if one[1] and
                       set(one[1]) <= set(best[1]) and inside(one[3], best[3])]
                made += own
                continue
            deed = self.deeds.get((room, word))
            if deed is None:
                return len(row) - len(rest)
            if deed[0] == "done":
                self.row, self.kept = row, made
                return pile[-1][1], stepped
            if deed[0] == "step":
                pile.append((deed[1], word, rest[:1]))
                rest = rest[1:]
                stepped += 1
                continue
            head, parts = self.rules[deed[1]]
            cut = len(pile) - len(parts)
            tree = (deed[1], tuple(child for _, child, words in pile[cut:]))
            words = [word for _, child, words in pile[cut:] for word in words]
            pile = pile[:cut]
            if (pile[-1][0], head) not in self.leads:
                return len(row) - len(rest)
            made.append((pile[-1][0], words, rest[0][1] if rest else "", tree))
            pile.append((self.leads[pile[-1][0], head], tree, words))


def inside(tree, whole):
    """Whether the very tree stands in the whole one."""
    return tree is whole or (not isinstance(whole, str) and any(inside(tree, child) for child in whole[1]))
