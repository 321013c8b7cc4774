"""What several tests need: grounds, values of any kind, and a second way to run programs."""

import random

SENDING = ((("c", 2),), (("send", 1),), ("done", "full"))
LOGGING = ((), (("l", 1), ("f", 5)), ("done",))
WIDE = ((("a", 3), ("b", 2)), (("k", 2), ("m", 1)), ("done", "full", "lost"))
BARE = ((), (), ("done",))
C_IS_0 = ("eq", ("cell", "c"), ("num", 0))
ALWAYS = ("eq", ("num", 0), ("num", 0))
NEVER = ("less", ("num", 0), ("num", 0))
FOREVER = ("while", ALWAYS, ())


def nested(thing, times):
    """Put a thing into so many tuples, one within another."""
    for _ in range(times):
        thing = (thing,)
    return thing


def doubled(word, thing, times):
    """Put a thing beside itself behind a word, again and again."""
    for _ in range(times):
        thing = (word, thing, thing)
    return thing


# None of these is a ground, a program, a law, a book, a fact, a rule or a derivation, nor a tuple of such.
JUNK = (
    None, True, False, 0, 1, -1, 10 ** 999, -10 ** 999, "", "a", "set 1", "cells 1; deeds; exits e", "\u00e9", "a" * 9000,
    (None,), (True, False), ((), True), (0, 3, 2), ("a", "b", "a"), ("", (), ""), (((),),), nested((), 49),
    nested("a", 50), nested(None, 49), tuple(range(9999)), ("a",) * 9999, ((),) * 5000, ((None, None),) * 3000,
    (nested(1, 30),) * 300, doubled("and", ("eq",), 11), (("set", nested("c", 40), 1),), ((nested("set", 40),),),
    (("do", "send", nested(1, 40)),), (("while", nested("not", 40), ()),), ((("like",), ("all",)),),
    (("like", (True,), (2,)),), (("all", nested((), 30)),), (((1,), nested((), 30)),),
)


def refusal(call, *arguments, **named):
    """Return the class name and the what of the error that a call raises; None if it raises none."""
    try:
        call(*arguments, **named)
    except ValueError as error:
        return type(error).__name__, error.what
    return None


def doing(ground, v):
    """Return a program that does the deeds of a count."""
    found = []
    for (name, _), part in zip(ground[1], v):
        found.extend([("do", name, 9)] * (part // 9))
        if part % 9:
            found.append(("do", name, part % 9))
    return tuple(found)


def book_of(ground, given):
    """Return a book of a ground without cells that has these facts."""
    laws = []
    for fact in given:
        one = doing(ground, fact[1])
        laws.append((one, one + (FOREVER,)) if fact[0] == "all" else (one, doing(ground, fact[2])))
    return ground, tuple(laws)


class Leaving(Exception):
    def __init__(self, name):
        Exception.__init__(self, name)
        self.name = name


class Endless(Exception):
    pass


class PlainRun:
    """Runs a program step by step, with Python's own errors for exits, as a second opinion."""

    def __init__(self, ground, state):
        self.ground = ground
        self.sizes = dict(ground[0])
        self.cells = dict(zip([name for name, _ in ground[0]], state))
        self.deeds = {name: 0 for name, _ in ground[1]}
        self.met = set()

    def number(self, told):
        if told[0] == "num":
            return told[1]
        if told[0] == "cell":
            return self.cells[told[1]]
        one, two = self.number(told[1]), self.number(told[2])
        return {"add": one + two, "sub": one - two, "mul": one * two}[told[0]]

    def holds(self, told):
        if told[0] == "not":
            return not self.holds(told[1])
        if told[0] in ("and", "or"):
            both = (self.holds(told[1]), self.holds(told[2]))
            return all(both) if told[0] == "and" else any(both)
        one, two = self.number(told[1]), self.number(told[2])
        return one == two if told[0] == "eq" else one < two

    def body(self, body, place=()):
        for index, told in enumerate(body):
            self.statement(told, place + (index,))

    def statement(self, told, place):
        word = told[0]
        if word == "set":
            self.cells[told[1]] = self.number(told[2]) % self.sizes[told[1]]
        elif word == "do":
            self.deeds[told[1]] += told[2]
        elif word == "exit":
            raise Leaving(told[1])
        elif word == "if":
            number = 0 if self.holds(told[1]) else 1
            self.body(told[2 + number], place + (number,))
        elif word == "while":
            self.turns(told, place)
        else:
            self.caught(told, place)

    def turns(self, told, place):
        while True:
            here = (place, tuple(self.cells.values()))
            if here in self.met:
                raise Endless()
            self.met.add(here)
            if not self.holds(told[1]):
                return
            self.body(told[2], place + (0,))

    def caught(self, told, place):
        names = [name for name, _ in told[2]]
        try:
            self.body(told[1], place + (0,))
            leaving = self.ground[2][0]
        except Leaving as left:
            if left.name not in names:
                raise
            leaving = left.name
        if leaving in names:
            index = names.index(leaving)
            self.body(told[2][index][1], place + (index + 1,))


def number_of_state(ground, state):
    number = 0
    for value, (_, size) in zip(state, ground[0]):
        number = number * size + value
    return number


def plain_outcome(ground, program, state):
    """Return the outcome that the second way of running tells."""
    way = PlainRun(ground, state)
    leaving = ground[2][0]
    try:
        way.body(program)
    except Leaving as left:
        leaving = left.name
    except Endless:
        return None
    count = tuple(way.deeds[name] for name, _ in ground[1])
    return count, number_of_state(ground, tuple(way.cells.values())), ground[2].index(leaving)


class Chance:
    """Programs, counts and facts as chance has it, the same ones each time."""

    def __init__(self, ground, seed):
        self.ground = ground
        self.random = random.Random(seed)

    def number(self, deep):
        word = self.random.choice(("num", "cell", "add", "sub", "mul") if deep > 1 else ("num", "cell"))
        if word == "num" or (word == "cell" and not self.ground[0]):
            return "num", self.random.choice((0, 1, 2, 3, 99))
        if word == "cell":
            return "cell", self.random.choice(self.ground[0])[0]
        return word, self.number(deep - 1), self.number(deep - 1)

    def test(self, deep):
        word = self.random.choice(("eq", "less", "not", "and", "or") if deep > 1 else ("eq", "less"))
        if word in ("eq", "less"):
            return word, self.number(2), self.number(2)
        if word == "not":
            return word, self.test(deep - 1)
        return word, self.test(deep - 1), self.test(deep - 1)

    def body(self, deep):
        return tuple(self.statement(deep) for _ in range(self.random.randint(0, 3)))

    def statement(self, deep):
        words = ["do"] * 2 + ["set"] * bool(self.ground[0]) + ["exit"] * (len(self.ground[2]) > 1)
        word = self.random.choice(words + ["if", "while", "catch"] * (deep > 1))
        if word == "set":
            return word, self.random.choice(self.ground[0])[0], self.number(3)
        if word == "do":
            return word, self.random.choice(self.ground[1])[0], self.random.randint(1, 9)
        if word == "exit":
            return word, self.random.choice(self.ground[2][1:])
        if word == "if":
            return word, self.test(3), self.body(deep - 1), self.body(deep - 1)
        if word == "while":
            return word, self.test(2), self.body(deep - 1)
        names = self.random.sample(self.ground[2], self.random.randint(0, len(self.ground[2])))
        return word, self.body(deep - 1), tuple((name, self.body(deep - 1)) for name in names)

    def count(self, most):
        return tuple(self.random.randint(0, most) for _ in self.ground[1])

    def facts(self, many, most, share_of_all):
        """Return so many facts, fewer where two are one, with parts up to most."""
        found = []
        for _ in range(many):
            v, w = self.count(most), self.count(most)
            if self.random.random() < share_of_all:
                found.append(("all", v))
            elif v != w:
                found.append(("like",) + tuple(sorted((v, w), key=self.key)))
        return tuple(dict.fromkeys(found))

    def key(self, v):
        return sum(part * cost for part, (_, cost) in zip(v, self.ground[1])), v


def standing(part, chance):
    """Return a program with a part in it, the same one for all parts if chance is the same."""
    body = chance.body(2) + part + chance.body(2)
    for _ in range(3):
        way = chance.random.choice(("if", "else", "while", "first", "pair", "behind"))
        pairs = tuple((name, chance.body(2)) for name in chance.ground[2][:chance.random.randint(0, 3)])
        if way in ("if", "else"):
            other = chance.body(2)
            body = (("if", chance.test(2)) + ((body, other) if way == "if" else (other, body)),)
        elif way == "while":
            body = (("while", chance.test(2), body),)
        elif way == "first":
            body = (("catch", body, pairs),)
        elif way == "pair":
            body = (("catch", chance.body(2), pairs[1:] + ((chance.ground[2][0], body),)),)
        else:
            body = body + chance.body(1)
    return body


def bent(thing):
    """Return the things that differ from this one in one part: another number, word or kind of value, or one left out."""
    if isinstance(thing, tuple):
        found = [None, 0]
        for index, part in enumerate(thing):
            found.append(thing[:index] + thing[index + 1:])
            found.append(thing[:index] + thing[index:index + 1] + thing[index:])
            found.extend(thing[:index] + (other,) + thing[index + 1:] for other in bent(part))
        return found
    if isinstance(thing, int):
        return [thing - 1, thing + 1, -thing - 2, bool(thing), None, "1", (), 10 ** 30]
    if isinstance(thing, str):
        return [thing + "s", "like" if thing == "all" else "all", None, 1]
    return [(), 0, "all"]


def machine_outcome(ground, code, state):
    """Return the outcome of a code, done row by row."""
    way = PlainRun(ground, state)
    at, met = 0, set()
    while (at, tuple(way.cells.values())) not in met:
        met.add((at, tuple(way.cells.values())))
        row = code[at]
        at += 1
        if row[0] == "set":
            way.cells[row[1]] = way.number(row[2]) % way.sizes[row[1]]
        elif row[0] == "deed":
            way.deeds[row[1]] += row[2]
        elif row[0] == "branch":
            at = at if way.holds(row[1]) else row[2]
        elif row[0] == "switch":
            at = row[2][way.cells[row[1]]]
        elif row[0] == "jump":
            at = row[1]
        else:
            count = tuple(way.deeds[name] for name, _ in ground[1])
            return count, number_of_state(ground, tuple(way.cells.values())), ground[2].index(row[1])
    return None
