"""Programs, read from texts."""

from lawsleft.errors import BadNumber, BadText, NoName, TooDeep, TooMany, Twice
from lawsleft.grounds import made_ground
from lawsleft.programs import DEEPEST_BODY, MOST_DEEDS, MOST_IN_BODY, MOST_IN_PROGRAM, MOST_PAIRS, PLAIN, names_of
from lawsleft.readnumbers import read_number, read_test
from lawsleft.words import BECOMES, NAME, NUMBER, Reading

STATEMENT_WORDS = ("if", "while", "exit", "catch")


def read_program(ground, text):
    """Return the program that a text tells."""
    made_ground(ground)
    reading = Reading(text)
    program = read_whole_program(ground, reading)
    reading.finish()
    return program


def read_whole_program(ground, reading):
    """Return the program whose text comes, as far as its body goes; its statements are counted by themselves."""
    return ProgramReading(ground, reading).body(1)


class ProgramReading:
    """The reading of one program within a text."""

    def __init__(self, ground, reading):
        self.cells = names_of(ground[0])
        self.kinds = names_of(ground[1])
        self.exits = ground[2]
        self.reading = reading
        self.met = 0

    def body(self, depth):
        """Return the body that comes, and lies so deep."""
        if not self.statement_comes():
            return ()
        found = [self.statement(0, depth)]
        while self.reading.comes((";",)):
            self.reading.take()
            found.append(self.statement(len(found), depth))
        return tuple(found)

    def statement_comes(self):
        """Whether the first word of a statement comes next."""
        return self.reading.comes_one_of(NAME) or self.reading.comes(STATEMENT_WORDS)

    def statement(self, ahead, depth):
        """Return the statement that comes; so many stand ahead of it in its body, which lies so deep."""
        if not self.statement_comes():
            raise BadText(self.reading.place())
        word, place = self.reading.take()
        if ahead == MOST_IN_BODY or self.met == MOST_IN_PROGRAM:
            raise TooMany(place)
        self.met += 1
        if word == "if":
            return self.choice(depth)
        if word == "while":
            return ("while", read_test(self.reading, self.cells), self.block(depth))
        if word == "exit":
            return self.leaving()
        if word == "catch":
            return ("catch", self.block(depth), self.pairs(depth))
        if word in self.cells:
            self.reading.take_mark((BECOMES,))
            return ("set", word, read_number(self.reading, self.cells))
        if word not in self.kinds:
            raise NoName(place)
        return ("do", word, self.times())

    def times(self):
        """Return how often a deed is done."""
        if not self.reading.comes_one_of(NUMBER):
            return 1
        number, place = self.reading.take_number()
        if not 1 <= number <= MOST_DEEDS:
            raise BadNumber(place)
        return number

    def choice(self, depth):
        """Return the if whose first word is read."""
        test = read_test(self.reading, self.cells)
        body = self.block(depth)
        if not self.reading.comes(("else",)):
            return ("if", test, body, ())
        self.reading.take()
        return ("if", test, body, self.block(depth))

    def leaving(self):
        """Return the exit whose first word is read."""
        name, place = self.reading.take_name()
        if name not in self.exits or name == self.exits[PLAIN]:
            raise NoName(place)
        return ("exit", name)

    def pairs(self, depth):
        """Return the pairs of a catch whose first body is read."""
        found = []
        ahead = []
        while self.reading.comes_one_of(NAME):
            name, place = self.reading.take()
            if len(found) == MOST_PAIRS:
                raise TooMany(place)
            if name not in self.exits:
                raise NoName(place)
            if name in ahead:
                raise Twice(place)
            ahead.append(name)
            found.append((name, self.block(depth)))
        return tuple(found)

    def block(self, depth):
        """Return the body in braces that comes, of a statement in a body that lies so deep."""
        _, place = self.reading.take_mark(("{",))
        if depth == DEEPEST_BODY:
            raise TooDeep(place)
        body = self.body(depth + 1)
        self.reading.take_mark(("}",))
        return body
