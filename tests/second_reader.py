"""A second way to read and to tell texts, as another opinion: a stack of what has to come, and operators by their rank."""

import re

RESERVED = "cells deeds exits if else while catch exit and or not law".split()
RANKS = {"or": 1, "and": 2, "not": 3, "=": 4, "<": 4, "+": 5, "-": 5, "*": 6}
WORDS = {"=": "eq", "<": "less", "+": "add", "-": "sub", "*": "mul"}


class Wrong(Exception):
    """What a text is refused with."""

    def __init__(self, word, what):
        Exception.__init__(self, word, what)
        self.told = (word, what)


def words_of(text):
    """Return the words of a text as pairs (word, place)."""
    return [(found.group(), found.start()) for found in re.finditer(r"[a-z0-9]+|:=|[^ ]", text)]


def sort_of(word):
    """Return n for a name, 0 for a figure word, the word itself for others that can stand, ? for the rest."""
    if word in RESERVED or re.fullmatch(r":=|[=<+\-*()\[\]{};,:~]", word):
        return word
    if re.fullmatch(r"[a-z][a-z0-9]{0,11}", word):
        return "n"
    return "0" if re.fullmatch(r"0|[1-9][0-9]{0,5}", word) else "?"


class Formula:
    """Numbers or tests read by ranks: the operators that wait, and the things that are read."""

    def __init__(self, cells):
        self.cells = cells
        self.waiting = []
        self.things = []
        self.open = 0

    def turn(self, rank):
        """Put together what waits with at least this rank."""
        while self.waiting and self.waiting[-1][0] not in ("(", "[") and RANKS[self.waiting[-1][0]] >= rank:
            word, place = self.waiting.pop()
            right = self.things.pop()
            if word == "not":
                made = (("not", right[0]), right[1] + 1)
            elif word in ("=", "<"):
                left = self.things.pop()
                made = ((WORDS[word], left[0], right[0]), 1)
            else:
                left = self.things.pop()
                made = ((WORDS.get(word, word), left[0], right[0]), 1 + max(left[1], right[1]))
            if made[1] > 6:
                raise Wrong("TooDeep", place)
            self.things.append(made)

    def bracket(self, word, place):
        if self.open == 12:
            raise Wrong("TooDeep", place)
        self.open += 1
        self.waiting.append((word, place))

    def close(self):
        self.turn(0)
        self.waiting.pop()
        self.open -= 1


class Reader:
    """Reads by a stack of goals: signs that have to come, and calls that say what comes next."""

    def __init__(self, ground, text):
        self.ground = ground
        self.cells = [name for name, _ in ground[0]]
        self.kinds = [name for name, _ in ground[1]]
        self.exits = list(ground[2])
        self.words = [(sort_of(word), word, place) for word, place in words_of(text)] + [("", "", len(text))]
        self.at = 0

    def next(self):
        return self.words[self.at][0]

    def refuse(self):
        raise Wrong("BadText", self.words[self.at][2])

    def take(self, sort):
        if self.next() != sort:
            self.refuse()
        self.at += 1
        return self.words[self.at - 1][1:]

    def formula(self, is_test):
        """Read a number or a test: what is open is told by a row of states, t within tests, e within numbers."""
        made = Formula(self.cells)
        state = ["t" if is_test else "e"]
        while True:
            self.operand(made, state)
            while True:
                sort = self.next()
                if sort in ("+", "-", "*") and state[-1] in ("e", "l", "r"):
                    made.turn(RANKS[sort])
                elif sort in ("=", "<") and state[-1] == "l":
                    made.turn(4)
                    state[-1] = "r"
                elif state[-1] == "l":
                    made.turn(5)
                    self.refuse()
                elif sort in ("and", "or") and state[-1] in ("r", "t"):
                    made.turn(RANKS[sort])
                    state[-1] = "t"
                elif len(state) > 1:
                    number = state[-1] == "e"
                    made.turn(0)
                    self.take(")" if number else "]")
                    made.close()
                    state.pop()
                    continue
                else:
                    made.turn(0)
                    return made.things[0][0]
                _, word, place = self.words[self.at]
                self.at += 1
                made.waiting.append((word, place))
                break

    def operand(self, made, state):
        """Read up to the next number, through brackets and nots."""
        while True:
            sort, word, place = self.words[self.at]
            if sort == "not" and state[-1] == "t":
                self.at += 1
                made.waiting.append((word, place))
            elif sort == "[" and state[-1] == "t":
                self.at += 1
                made.bracket(word, place)
                state.append("t")
            elif sort == "(":
                self.at += 1
                made.bracket(word, place)
                if state[-1] == "t":
                    state[-1] = "l"
                state.append("e")
            elif sort in ("0", "n"):
                self.at += 1
                if state[-1] == "t":
                    state[-1] = "l"
                made.things.append(self.atom(sort, word, place))
                return
            else:
                self.refuse()

    def atom(self, sort, word, place):
        if sort == "0":
            if int(word) > 99:
                raise Wrong("BadNumber", place)
            return ("num", int(word)), 1
        if word not in self.cells:
            raise Wrong("NoName", place)
        return ("cell", word), 1

    def program(self):
        """Read a program; the bodies that are open stand on a stack of (statements, what is done behind)."""
        open_bodies = [([], None)]
        many = 0
        fresh = True
        while True:
            sort, word, place = self.words[self.at]
            if sort in ("n", "if", "while", "exit", "catch") and fresh:
                if len(open_bodies[-1][0]) == 40 or many == 120:
                    raise Wrong("TooMany", place)
                many += 1
                self.at += 1
                fresh = self.begin(sort, word, place, open_bodies)
                continue
            if fresh and open_bodies[-1][0]:
                self.refuse()
            if sort == ";" and not fresh:
                self.at += 1
                fresh = True
                continue
            statements, behind = open_bodies[-1]
            if behind is None:
                return tuple(statements)
            self.take("}")
            open_bodies.pop()
            fresh = behind(tuple(statements), open_bodies)

    def begin(self, sort, word, place, open_bodies):
        """Read the begin of a statement; return whether a new body begins."""
        into = open_bodies[-1][0]
        if sort == "n" and word in self.cells:
            self.take(":=")
            into.append(("set", word, self.formula(False)))
        elif sort == "n" and word in self.kinds:
            times = 1
            if self.next() == "0":
                figures, at = self.take("0")
                times = int(figures)
                if not 1 <= times <= 9:
                    raise Wrong("BadNumber", at)
            into.append(("do", word, times))
        elif sort == "n":
            raise Wrong("NoName", place)
        elif sort == "exit":
            name, at = self.take("n")
            if name not in self.exits[1:]:
                raise Wrong("NoName", at)
            into.append(("exit", name))
        elif sort == "catch":
            return self.brace(open_bodies, lambda body, bodies: self.pair(bodies, body, []))
        else:
            test = self.formula(True)
            if sort == "while":
                return self.brace(open_bodies, lambda body, bodies: self.put(bodies, ("while", test, body)))
            return self.brace(open_bodies, lambda body, bodies: self.other(bodies, test, body))
        return False

    def brace(self, open_bodies, behind):
        _, place = self.take("{")
        if len(open_bodies) == 12:
            raise Wrong("TooDeep", place)
        open_bodies.append(([], behind))
        return True

    def put(self, bodies, statement):
        bodies[-1][0].append(statement)
        return False

    def other(self, bodies, test, body):
        if self.next() != "else":
            return self.put(bodies, ("if", test, body, ()))
        self.at += 1
        return self.brace(bodies, lambda second, rest: self.put(rest, ("if", test, body, second)))

    def pair(self, bodies, body, pairs):
        if self.next() != "n":
            return self.put(bodies, ("catch", body, tuple(pairs)))
        name, place = self.take("n")
        if len(pairs) == 4:
            raise Wrong("TooMany", place)
        if name not in self.exits:
            raise Wrong("NoName", place)
        if name in [word for word, _ in pairs]:
            raise Wrong("Twice", place)
        return self.brace(bodies, lambda second, rest: self.pair(rest, body, pairs + [(name, second)]))

    def whole(self, *parts):
        """Read parts, each a sort of word or the word program, up to the end."""
        found = []
        for part in parts:
            found.append(self.program() if part == "program" else self.take(part)[0])
        if self.next() != "":
            self.refuse()
        return tuple(found)


def second_program(ground, text):
    """Return the program that the second way of reading tells, or the error's class and what."""
    try:
        return Reader(ground, text).whole("program")[0]
    except Wrong as error:
        return error.told


def second_law(ground, text):
    """Return the law that the second way of reading tells, or the error's class and what."""
    try:
        one, _, two = Reader(ground, text).whole("program", "~", "program")
        return one, two
    except Wrong as error:
        return error.told


def second_entry(ground, text):
    """Return the entry that the second way of reading tells, or the error's class and what."""
    try:
        _, name, _, one, _, two = Reader(ground, text).whole("law", "n", ":", "program", "~", "program")
        return name, (one, two)
    except Wrong as error:
        return error.told


def spaced(words):
    """Put words together with one blank between two, but none where [63] tells so."""
    told = ""
    for index, word in enumerate(words):
        bare = index == 0 or word in (";", ")", "]") or words[index - 1] in ("(", "[")
        told += word if bare or words[index - 1:index + 1] == ["{", "}"] else " " + word
    return told


def bent_text(text, random):
    """Return a text with one or two of its words left out, doubled, exchanged or replaced, or with other blanks."""
    words = [word for word, _ in words_of(text)]
    for _ in range(random.randint(0, 2)):
        at = random.randrange(len(words) + 1)
        way = random.randrange(5)
        if way == 0:
            del words[at:at + 1]
        elif way == 1:
            words[at:at] = words[at:at + random.randint(1, 3)]
        elif way == 2 and words:
            other = random.randrange(len(words))
            words.insert(at, words.pop(other))
        else:
            words[at:at + way - 3] = [random.choice(
                RESERVED + ["a", "b", "c", "send", "k", "m", "done", "full", "lost", "pay", "0", "1", "9", "10", "99", "100",
                            "007", "1234567", "a234567890123", "2a", "A", "_", ":=", "="] + list("=<+-*()[]{};,:~"))]
    told = ""
    for word in words:
        apart = told and re.match(r"[a-z0-9]", told[-1]) and re.match(r"[a-z0-9]", word)
        apart = apart or (told[-1:] == ":" and word == "=")
        told += " " * random.choice((1, 2) if apart else (0, 0, 1, 3)) + word
    return told + " " * random.choice((0, 0, 2))
