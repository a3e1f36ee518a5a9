"""Plain second answers to hold the program against, and makers of inputs."""

import random
import time

NONE = ("none",)
EMPTY = ("empty",)


def sign(low, high=None):
    return ("sign", low, low if high is None else high)


def then(one, other):
    return ("then", one, other)


def either(one, other):
    return ("or", one, other)


def again(one):
    return ("again", one)


def texts_of(pattern, signs, most):
    """All texts of the pattern over these signs of at most so many signs, by the words of point 4."""
    form = pattern[0]
    if form == "none":
        return set()
    if form == "empty":
        return {""}
    if form == "sign":
        return {c for c in signs if pattern[1] <= c <= pattern[2]} if most else set()
    if form == "or":
        return texts_of(pattern[1], signs, most) | texts_of(pattern[2], signs, most)
    if form == "then":
        return joined(texts_of(pattern[1], signs, most), texts_of(pattern[2], signs, most), most)
    ones = texts_of(pattern[1], signs, most)
    found = {""}
    while True:
        more = found | joined(found, ones, most)
        if more == found:
            return found
        found = more


def joined(ones, others, most):
    return {one + other for one in ones for other in others if len(one + other) <= most}


def all_texts(signs, most):
    told = [""]
    last = [""]
    for _ in range(most):
        last = [text + c for text in last for c in signs]
        told += last
    return told


def chance_pattern(chance, parts, signs):
    """A pattern of about so many parts, the same for the same state of `chance`."""
    if parts <= 1:
        form = chance.randrange(12)
        if form == 0:
            return NONE
        if form == 1:
            return EMPTY
        low, high = sorted((chance.choice(signs), chance.choice(signs)))
        return ("sign", low, high if form < 5 else low)
    if parts == 2 or chance.randrange(4) == 0:
        return again(chance_pattern(chance, parts - 1, signs))
    left = chance.randrange(1, parts - 1)
    form = chance.choice(("then", "then", "or"))
    return (form, chance_pattern(chance, left, signs), chance_pattern(chance, parts - 1 - left, signs))


def chance_patterns(seed, many, parts, signs):
    chance = random.Random(seed)
    return [chance_pattern(chance, chance.randrange(1, parts + 1), signs) for _ in range(many)]


def chance_text(seed, many, signs):
    chance = random.Random(seed)
    return "".join(chance.choice(signs) for _ in range(many))


def count_parts(pattern):
    waiting = [pattern]
    many = 0
    while waiting:
        one = waiting.pop()
        many += 1
        waiting += [part for part in one[1:] if isinstance(part, tuple)]
    return many


def deep_patterns():
    """Patterns of nearly 200 parts, deep to one side, with "again" within "again"."""
    told = {
        "again": sign("a"),
        "again then, left": sign("a"),
        "again then, right": sign("a"),
        "again or": sign("a"),
        "again perhaps": sign("a"),
        "perhaps, left": sign("a"),
        "perhaps, right": sign("a"),
        "then, left": then(again(sign("a", "b")), sign("a")),
        "then, right": again(sign("a", "b")),
        "or, left": sign("a"),
    }
    for step in range(199):
        told["again"] = again(told["again"])
    for step in range(66):
        c = sign("abc"[step % 3])
        told["again then, left"] = again(then(told["again then, left"], c))
        told["again then, right"] = again(then(sign("a"), told["again then, right"]))
        told["again or"] = again(either(told["again or"], c))
        told["again perhaps"] = again(either(told["again perhaps"], EMPTY))
    for step in range(49):
        perhaps = either(sign("a"), EMPTY)
        told["perhaps, left"] = then(told["perhaps, left"], perhaps)
        told["perhaps, right"] = then(perhaps, told["perhaps, right"])
    for step in range(97):
        told["then, left"] = then(told["then, left"], sign("a", "b"))
        told["then, right"] = then(sign("a", "b"), told["then, right"])
        told["or, left"] = either(told["or, left"], sign("abc"[step % 3]))
    told["or, left"] = again(told["or, left"])
    return told


class Soon:
    """`with Soon(self, seconds):` fails the test where what is within takes longer."""

    def __init__(self, case, seconds):
        self.case = case
        self.seconds = seconds

    def __enter__(self):
        self.begun = time.process_time()

    def __exit__(self, kind, error, trace):
        if kind is None:
            self.case.assertLess(time.process_time() - self.begun, self.seconds)
