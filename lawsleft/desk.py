"""The desk: laws of several hands, which can be taken back, and programs on a shelf."""

from lawsleft.alikes import alike
from lawsleft.booktexts import ask_sides
from lawsleft.cheapest import plain_form
from lawsleft.codes import code
from lawsleft.deskrows import answer, read_kept_row, read_row
from lawsleft.desktexts import desk_rows
from lawsleft.errors import BadName, BadRow, NoLaw, NoProgram, NothingToRedo, NothingToUndo, Refused, TooMany, Twice
from lawsleft.facts import MOST_LAWS, ask_greatness, facts_of_sides
from lawsleft.grounds import is_name, made_ground
from lawsleft.groundtexts import read_ground
from lawsleft.joins import costs, numbers_of_worths
from lawsleft.papers import why
from lawsleft.programs import made_program
from lawsleft.rules import rules
from lawsleft.tables import all_outcomes

MOST_PROGRAMS = 40
MOST_DEEDS_KEPT = 100


class Desk:
    """A desk over one ground.

    Each law that was ever said has a number of its own, by which the laws that stand are ordered.
    What a hand did is kept as triples: whether the law then stood, its number, and its entry.
    """

    def __init__(self, ground):
        self.ground = made_ground(ground)
        self.standing = {}
        self.many_said = 0
        self.shelf = {}
        self.done = {}
        self.undone = {}

    def say(self, hand, word, sides):
        """Let a law stand under a word of a hand."""
        ask_name(hand)
        ask_name(word)
        ask_sides(self.ground, sides)
        if self.number_of(hand, word) is not None:
            raise Twice(word)
        self.ask_room()
        ask_greatness(facts_of_sides(self.ground, sides), 0)
        self.many_said += 1
        self.do(hand, (True, self.many_said, (hand, word, sides)))

    def strike(self, hand, word):
        """Take away the law of a word of a hand."""
        ask_name(hand)
        ask_name(word)
        number = self.number_of(hand, word)
        if number is None:
            raise NoLaw(word)
        self.do(hand, (False, number, self.standing[number]))

    def put(self, word, program):
        """Put a program on the shelf, in the place of one that has the word already."""
        ask_name(word)
        made_program(self.ground, program)
        if word not in self.shelf and len(self.shelf) == MOST_PROGRAMS:
            raise TooMany(MOST_PROGRAMS + 1)
        self.shelf[word] = program

    def drop(self, word):
        """Take a program from the shelf."""
        self.program(word)
        self.shelf.pop(word)

    def undo(self, hand):
        """Take back the last say or strike of a hand that is not undone."""
        ask_name(hand)
        if not self.done.get(hand):
            raise NothingToUndo(hand)
        stood, number, entry = self.done[hand][-1]
        self.let_stand(not stood, number, entry)
        self.undone[hand].append(self.done[hand].pop())

    def redo(self, hand):
        """Do again the say or strike of a hand that was undone last."""
        ask_name(hand)
        if not self.undone.get(hand):
            raise NothingToRedo(hand)
        stood, number, entry = self.undone[hand][-1]
        self.let_stand(stood, number, entry)
        self.done[hand].append(self.undone[hand].pop())

    def entries(self):
        """Return the laws that stand, in order, as triples of the hand, the word and the law."""
        return tuple([self.standing[number] for number in sorted(self.standing)])

    def words(self):
        """Return the words of the shelf, rising."""
        return tuple(sorted(self.shelf))

    def program(self, word):
        """Return the program of a word."""
        ask_name(word)
        if word not in self.shelf:
            raise NoProgram(word)
        return self.shelf[word]

    def book(self):
        """Return the book of the laws that stand."""
        return (self.ground, tuple([sides for _, _, sides in self.entries()]))

    def rules(self):
        """Return the row of rules of the book."""
        return rules(self.book())

    def alike(self, one, two):
        """Whether the programs of two words are alike."""
        first = self.program(one)
        return alike(self.book(), first, self.program(two))

    def why(self, one, two):
        """Return why the programs of two words are alike, or why they are not."""
        first = self.program(one)
        return why(self.book(), first, self.program(two))

    def code(self, word):
        """Return the cheapest code that is alike to the program of a word."""
        return code(self.book(), self.program(word))

    def cheapest(self, word):
        """Return the plain form of the program of a word."""
        return plain_form(self.book(), self.program(word))

    def costs(self, sides):
        """Return the pairs of words whose programs would become alike by one law more."""
        ask_sides(self.ground, sides)
        self.ask_room()
        ask_greatness(facts_of_sides(self.ground, sides), 0)
        words = self.words()
        found = costs(self.book(), sides, tuple([self.shelf[word] for word in words]))
        return tuple([(words[one], words[two]) for one, two in found])

    def classes(self):
        """Return the words of the shelf in lots, whose programs are alike."""
        words = self.words()
        tables = [all_outcomes(self.ground, self.shelf[word]) for word in words]
        lots = {}
        for word, number in zip(words, numbers_of_worths(self.rules(), tables)):
            lots.setdefault(number, []).append(word)
        return tuple([tuple(lots[number]) for number in lots])

    def row(self, text):
        """Do or ask what a row says, and return the answer."""
        try:
            return answer(self, read_row(self.ground, text))
        except Refused as error:
            return "refused: " + error.name + " " + str(error.what)

    def text(self):
        """Return the rows that tell the desk."""
        return desk_rows(self.ground, self.entries(), [(word, self.shelf[word]) for word in self.words()])

    def number_of(self, hand, word):
        """Return the number of the law that stands under a word of a hand, None if there is none."""
        for number in self.standing:
            if self.standing[number][:2] == (hand, word):
                return number
        return None

    def ask_room(self):
        """Raise TooMany if one more law would stand beside as many as can."""
        if len(self.standing) == MOST_LAWS:
            raise TooMany(MOST_LAWS + 1)

    def do(self, hand, deed):
        """Do a new deed of a hand, and keep it; what the hand could redo is forgotten."""
        stands, number, entry = deed
        self.let_stand(stands, number, entry)
        self.done[hand] = (self.done.get(hand, []) + [deed])[-MOST_DEEDS_KEPT:]
        self.undone[hand] = []

    def let_stand(self, stands, number, entry):
        """Let a law stand at its place, or stand no more."""
        if stands:
            self.ask_room()
            self.standing[number] = entry
        else:
            self.standing.pop(number)

    def forget(self):
        """Leave nothing to undo and to redo."""
        self.done = {}
        self.undone = {}


def ask_name(thing):
    """Raise BadName if thing is no name."""
    if not is_name(thing):
        raise BadName(thing)


def desk_of(rows):
    """Return the desk of the ground, the laws and the programs that rows tell."""
    if not isinstance(rows, tuple) or not rows:
        raise BadRow((-1, 0))
    desk = Desk(ground_told(rows[0]))
    for index in range(1, len(rows)):
        told, place = kept_row(desk.ground, index, rows[index])
        if not keep_row(desk, told):
            raise BadRow((index, place))
    desk.forget()
    return desk


def ground_told(text):
    """Return the ground that the first row of a desk tells."""
    try:
        return read_ground(text)
    except Refused as error:
        raise BadRow((0, error.what))


def kept_row(ground, index, text):
    """Return what a further row of a desk tells, and the place of its word."""
    try:
        return read_kept_row(ground, text)
    except Refused as error:
        raise BadRow((index, error.what))


def keep_row(desk, told):
    """Keep a law or a program that a row of a desk tells; return whether it may stand there."""
    words = desk.words()
    try:
        if told[0] == "say" and not words:
            desk.say(told[1], told[2], told[3])
            return True
        if told[0] == "put" and (not words or words[-1] < told[1]):
            desk.put(told[1], told[2])
            return True
    except Refused:
        return False
    return False
