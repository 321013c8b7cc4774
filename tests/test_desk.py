"""Points [67] to [70]: the desk, its laws of several hands, undo and redo, the shelf, and its questions."""

import random
import unittest

from lawsleft.alikes import alike
from lawsleft.cheapest import plain_form
from lawsleft.codes import code
from lawsleft.desk import Desk
from lawsleft.facts import is_book
from lawsleft.joins import costs
from lawsleft.kernel import no_right, yes_right
from lawsleft.papers import why
from lawsleft.rules import rules
from tests.samples import (
    ALWAYS, BARE, C_IS_0, FOREVER, JUNK, LOGGING, SENDING, WIDE, Chance, book_of, doing, refusal,
)

TO_1 = (("set", "c", ("num", 1)),)
FULL = (("exit", "full"),)


def send(many):
    return doing(SENDING, (many,))


LESS = (send(2), send(1))
ENDING = (send(3), (FOREVER,))
EMPTY = ((), ())
BAD_NAMES = ("", "A", "1a", "a b", "law", "if", "abcdefghijklm", "\u00e9", "a_")


def told(desk):
    """Return all that a desk tells of what stands."""
    return desk.entries(), desk.words(), tuple(desk.program(word) for word in desk.words()), desk.book(), desk.text()


class Asking(unittest.TestCase):
    def setUp(self):
        self.desk = Desk(SENDING)

    def refused(self, word, what, call, *arguments):
        """Ask that a call is refused, and that it changes nothing."""
        before = told(self.desk)
        self.assertEqual(refusal(call, *arguments), (word, what))
        self.assertEqual(told(self.desk), before)

    def stands(self, *entries):
        self.assertEqual(tuple((hand, word) for hand, word, _ in self.desk.entries()), entries)
        self.assertEqual(self.desk.book(), (SENDING, tuple(sides for _, _, sides in self.desk.entries())))


class Laws(Asking):
    def test_a_new_desk(self):
        self.assertEqual(told(self.desk), ((), (), (), (SENDING, ()), ("cells c 2; deeds send 1; exits done, full",)))
        self.assertEqual(self.desk.rules(), ())
        self.assertEqual(self.desk.classes(), ())
        self.assertEqual(Desk(ground=BARE).book(), (BARE, ()))

    def test_say_and_strike(self):
        self.assertIsNone(self.desk.say(hand="ann", word="less", sides=LESS))
        self.assertEqual(self.desk.entries(), (("ann", "less", LESS),))
        self.assertEqual(self.desk.book(), (SENDING, (LESS,)))
        self.assertEqual(self.desk.rules(), (((2,), (1,)),))
        self.desk.say("bob", "end", ENDING)
        self.assertEqual(self.desk.entries(), (("ann", "less", LESS), ("bob", "end", ENDING)))
        self.assertEqual(self.desk.rules(), rules((SENDING, (LESS, ENDING))))
        self.assertIsNone(self.desk.strike(hand="ann", word="less"))
        self.assertEqual(self.desk.book(), (SENDING, (ENDING,)))

    def test_a_hand_has_a_word_but_once(self):
        self.desk.say("ann", "w", LESS)
        self.refused("Twice", "w", self.desk.say, "ann", "w", LESS)
        self.refused("Twice", "w", self.desk.say, "ann", "w", ENDING)
        self.desk.say("bob", "w", LESS)
        self.desk.say("ann", "ann", LESS)
        self.stands(("ann", "w"), ("bob", "w"), ("ann", "ann"))
        self.desk.strike("ann", "w")
        self.stands(("bob", "w"), ("ann", "ann"))
        self.desk.say("ann", "w", ENDING)
        self.stands(("bob", "w"), ("ann", "ann"), ("ann", "w"))

    def test_strike_of_what_a_hand_has_not(self):
        self.refused("NoLaw", "w", self.desk.strike, "ann", "w")
        self.desk.say("bob", "w", LESS)
        self.refused("NoLaw", "w", self.desk.strike, "ann", "w")
        self.refused("NoLaw", "v", self.desk.strike, "bob", "v")
        self.desk.strike("bob", "w")
        self.refused("NoLaw", "w", self.desk.strike, "bob", "w")

    def test_30_laws_and_one_more(self):
        for index in range(30):
            self.desk.say(("ann", "bob")[index % 2], "w" + str(index), LESS)
        self.assertIs(is_book(self.desk.book()), True)
        self.refused("TooMany", 31, self.desk.say, "ann", "more", LESS)
        self.refused("TooMany", 31, self.desk.say, "cid", "more", EMPTY)
        self.refused("TooMany", 31, self.desk.costs, LESS)
        self.refused("Twice", "w0", self.desk.say, "ann", "w0", LESS)
        self.refused("TooMany", 31, self.desk.say, "ann", "more", (send(41), ()))
        self.desk.strike("ann", "w0")
        self.desk.say("cid", "more", LESS)
        self.refused("TooMany", 31, self.desk.undo, "ann")
        self.refused("TooMany", 31, self.desk.undo, "ann")
        self.desk.undo("cid")
        self.desk.undo("ann")
        self.assertEqual(self.desk.entries()[0][:2], ("ann", "w0"))
        self.refused("TooMany", 31, self.desk.redo, "cid")
        self.refused("NothingToRedo", "bob", self.desk.redo, "bob")
        self.desk.redo("ann")
        self.desk.redo("cid")
        self.assertEqual(self.desk.entries()[-1][:2], ("cid", "more"))
        self.assertEqual(len(self.desk.entries()), 30)

    def test_counts_of_40_and_41(self):
        self.desk.say("ann", "w", (send(40), ()))
        self.refused("TooGreat", 0, self.desk.say, "ann", "v", (send(41), ()))
        self.refused("TooGreat", 0, self.desk.say, "ann", "v", (send(40), (("if", C_IS_0, (), send(41)),)))
        self.refused("TooGreat", 0, self.desk.costs, (send(41), (FOREVER,)))
        self.desk.say("ann", "v", (send(41), send(41)))
        self.assertEqual(self.desk.rules(), (((40,), (0,)),))


class Errors(Asking):
    def test_grounds(self):
        self.assertEqual(refusal(Desk, ((), (), ())), ("BadGround", (2, -1)))
        for thing in JUNK:
            self.assertEqual(refusal(Desk, thing)[0], "BadGround")

    def test_names(self):
        for thing in BAD_NAMES + JUNK:
            if thing == "a":
                continue
            self.refused("BadName", thing, self.desk.say, thing, "A", None)
            self.refused("BadName", thing, self.desk.say, "ann", thing, None)
            self.refused("BadName", thing, self.desk.strike, thing, "A")
            self.refused("BadName", thing, self.desk.strike, "ann", thing)
            self.refused("BadName", thing, self.desk.put, thing, None)
            self.refused("BadName", thing, self.desk.drop, thing)
            self.refused("BadName", thing, self.desk.undo, thing)
            self.refused("BadName", thing, self.desk.redo, thing)
            self.refused("BadName", thing, self.desk.program, thing)
            self.refused("BadName", thing, self.desk.code, thing)
            self.refused("BadName", thing, self.desk.cheapest, thing)
            for call in (self.desk.alike, self.desk.why):
                self.refused("BadName", thing, call, thing, "A")

    def test_laws_and_programs(self):
        self.desk.say("ann", "w", LESS)
        for thing in JUNK + (((),), ((), (), ()), (None, ()), ((), (("do", "send", 0),)), ((("do", "k", 1),), ())):
            self.refused("BadLaw", 0, self.desk.say, "ann", "w", thing)
            self.refused("BadLaw", 0, self.desk.costs, thing)
        for thing in JUNK:
            self.assertEqual(refusal(self.desk.put, "p", thing)[0], "BadProgram")
        self.refused("BadProgram", (-1,), self.desk.put, "p", None)
        self.refused("BadProgram", (1,), self.desk.put, "p", (FOREVER, ("exit", "done")))
        self.refused("TooMany", 121, self.desk.put, "p", (("catch", (FOREVER,) * 40, ()),) * 3)

    def test_which_error_comes_first(self):
        self.desk.say("ann", "w", LESS)
        self.refused("BadName", "A", self.desk.say, "A", "B", None)
        self.refused("BadName", "B", self.desk.say, "ann", "B", None)
        self.refused("BadLaw", 0, self.desk.say, "ann", "w", None)
        self.refused("Twice", "w", self.desk.say, "ann", "w", (send(41), ()))
        self.refused("BadName", "A", self.desk.alike, "A", "q")
        self.refused("NoProgram", "q", self.desk.alike, "q", "A")
        self.refused("NoProgram", "q", self.desk.why, "q", "r")
        self.desk.put("p", ())
        self.refused("BadName", "A", self.desk.alike, "p", "A")
        self.refused("NoProgram", "q", self.desk.why, "p", "q")


class Undoing(Asking):
    def test_nothing_left(self):
        self.refused("NothingToUndo", "ann", self.desk.undo, "ann")
        self.refused("NothingToRedo", "ann", self.desk.redo, "ann")
        self.desk.say("ann", "w", LESS)
        self.refused("NothingToRedo", "ann", self.desk.redo, "ann")
        self.refused("NothingToUndo", "bob", self.desk.undo, "bob")
        self.assertIsNone(self.desk.undo(hand="ann"))
        self.refused("NothingToUndo", "ann", self.desk.undo, "ann")
        self.assertIsNone(self.desk.redo(hand="ann"))
        self.refused("NothingToRedo", "ann", self.desk.redo, "ann")
        self.stands(("ann", "w"))

    def test_the_shelf_is_of_no_hand(self):
        self.desk.put("p", ())
        self.desk.drop("p")
        self.refused("NothingToUndo", "p", self.desk.undo, "p")

    def test_the_last_ones_of_the_own_hand_first(self):
        self.desk.say("ann", "v", LESS)
        self.desk.say("bob", "v", LESS)
        self.desk.say("ann", "w", LESS)
        self.desk.strike("ann", "v")
        self.desk.say("bob", "w", LESS)
        self.stands(("bob", "v"), ("ann", "w"), ("bob", "w"))
        self.desk.undo("ann")
        self.stands(("ann", "v"), ("bob", "v"), ("ann", "w"), ("bob", "w"))
        self.desk.undo("ann")
        self.stands(("ann", "v"), ("bob", "v"), ("bob", "w"))
        self.desk.undo("bob")
        self.desk.undo("ann")
        self.stands(("bob", "v"))
        self.desk.redo("ann")
        self.desk.redo("ann")
        self.stands(("ann", "v"), ("bob", "v"), ("ann", "w"))
        self.desk.redo("bob")
        self.desk.redo("ann")
        self.stands(("bob", "v"), ("ann", "w"), ("bob", "w"))

    def test_a_law_that_stands_again_has_its_old_place(self):
        self.desk.say("ann", "v", LESS)
        self.desk.say("bob", "v", ENDING)
        self.desk.undo("ann")
        self.desk.say("bob", "w", EMPTY)
        self.stands(("bob", "v"), ("bob", "w"))
        self.desk.redo("ann")
        self.stands(("ann", "v"), ("bob", "v"), ("bob", "w"))
        self.desk.strike("bob", "v")
        self.desk.say("ann", "w", EMPTY)
        self.desk.undo("bob")
        self.stands(("ann", "v"), ("bob", "v"), ("bob", "w"), ("ann", "w"))
        self.desk.strike("ann", "v")
        self.desk.say("ann", "v", ENDING)
        self.stands(("bob", "v"), ("bob", "w"), ("ann", "w"), ("ann", "v"))
        self.assertEqual(self.desk.entries()[-1], ("ann", "v", ENDING))
        self.desk.undo("ann")
        self.desk.undo("ann")
        self.assertEqual(self.desk.entries()[0], ("ann", "v", LESS))

    def test_a_say_or_strike_forgets_what_this_hand_alone_could_redo(self):
        for hand in ("ann", "bob", "cid"):
            self.desk.say(hand, "v", LESS)
            self.desk.say(hand, "w", LESS)
            self.desk.undo(hand)
        self.desk.say("ann", "x", LESS)
        self.refused("NothingToRedo", "ann", self.desk.redo, "ann")
        self.desk.strike("bob", "v")
        self.refused("NothingToRedo", "bob", self.desk.redo, "bob")
        self.desk.redo("cid")
        self.stands(("ann", "v"), ("cid", "v"), ("cid", "w"), ("ann", "x"))

    def test_refused_deeds_forget_nothing(self):
        self.desk.say("ann", "v", LESS)
        self.desk.say("ann", "w", LESS)
        self.desk.undo("ann")
        self.refused("Twice", "v", self.desk.say, "ann", "v", LESS)
        self.refused("NoLaw", "w", self.desk.strike, "ann", "w")
        self.refused("TooGreat", 0, self.desk.say, "ann", "w", (send(41), ()))
        self.refused("BadLaw", 0, self.desk.say, "ann", "w", None)
        self.desk.put("p", ())
        self.desk.redo("ann")
        self.stands(("ann", "v"), ("ann", "w"))

    def test_the_hundredth_deed_and_the_hundred_and_first(self):
        for _ in range(50):
            self.desk.say("ann", "w", LESS)
            self.desk.strike("ann", "w")
        for _ in range(100):
            self.desk.undo("ann")
        self.refused("NothingToUndo", "ann", self.desk.undo, "ann")
        self.stands()
        for _ in range(100):
            self.desk.redo("ann")
        self.refused("NothingToRedo", "ann", self.desk.redo, "ann")
        self.desk.say("bob", "w", LESS)
        self.desk.say("ann", "w", LESS)
        for _ in range(100):
            self.desk.undo("ann")
        self.refused("NothingToUndo", "ann", self.desk.undo, "ann")
        self.stands(("ann", "w"), ("bob", "w"))
        self.desk.undo("bob")
        for _ in range(100):
            self.desk.redo("ann")
        self.refused("NothingToRedo", "ann", self.desk.redo, "ann")
        self.stands(("ann", "w"))

    def test_sequences_as_chance_has_them(self):
        for seed in range(25):
            chance = random.Random(seed)
            desk, second = Desk(LOGGING), SecondDesk()
            for _ in range(500):
                hand, word = chance.choice(("ann", "bob", "cid")), "w" + str(chance.randint(0, chance.choice((1, 4, 20))))
                deed = chance.choice(("say", "say", "strike", "undo", "redo"))
                sides = (doing(LOGGING, (chance.randint(0, 3), 0)), doing(LOGGING, (0, chance.randint(0, 2))))
                arguments = {"say": (hand, word, sides), "strike": (hand, word)}.get(deed, (hand,))
                self.assertEqual(refusal(getattr(desk, deed), *arguments), getattr(second, deed)(*arguments))
                self.assertEqual(desk.entries(), second.entries())


class SecondDesk:
    """The laws of a desk, told anew each time from all that the hands did."""

    def __init__(self):
        self.said = []
        self.hands = {}

    def hand(self, hand):
        """Return the deeds of a hand, how many of them are done, and how many stand for good."""
        return self.hands.setdefault(hand, [[], 0, 0])

    def entries(self):
        standing = set()
        for deeds, many, _ in self.hands.values():
            for deed, number in deeds[:many]:
                (standing.add if deed == "say" else standing.discard)(number)
        return tuple(self.said[number] for number in sorted(standing))

    def do(self, hand, deed):
        row = self.hand(hand)
        row[0][row[1]:] = [deed]
        row[1] += 1
        row[2] = max(row[2], row[1] - 100)

    def say(self, hand, word, sides):
        if (hand, word) in [entry[:2] for entry in self.entries()]:
            return "Twice", word
        if len(self.entries()) == 30:
            return "TooMany", 31
        self.said.append((hand, word, sides))
        self.do(hand, ("say", len(self.said) - 1))
        return None

    def strike(self, hand, word):
        found = [entry for entry in self.entries() if entry[:2] == (hand, word)]
        if not found:
            return "NoLaw", word
        self.do(hand, ("strike", max(index for index, entry in enumerate(self.said) if entry[:2] == (hand, word)
                                     and entry in found and index in self.standing())))
        return None

    def standing(self):
        numbers = set()
        for deeds, many, _ in self.hands.values():
            for deed, number in deeds[:many]:
                (numbers.add if deed == "say" else numbers.discard)(number)
        return numbers

    def undo(self, hand):
        return self.moved(hand, -1, "NothingToUndo", lambda row: row[1] > row[2])

    def redo(self, hand):
        return self.moved(hand, 1, "NothingToRedo", lambda row: row[1] < len(row[0]))

    def moved(self, hand, way, word, may):
        row = self.hand(hand)
        if not may(row):
            return word, hand
        row[1] += way
        if len(self.entries()) > 30:
            row[1] -= way
            return "TooMany", 31
        return None


class Shelf(Asking):
    def test_put_and_drop(self):
        self.assertIsNone(self.desk.put(word="p", program=send(3)))
        self.desk.put("b", ())
        self.assertEqual(self.desk.words(), ("b", "p"))
        self.assertEqual(self.desk.program(word="p"), send(3))
        self.desk.put("p", TO_1)
        self.assertEqual(self.desk.program("p"), TO_1)
        self.assertEqual(self.desk.words(), ("b", "p"))
        self.assertIsNone(self.desk.drop(word="b"))
        self.assertEqual(self.desk.words(), ("p",))
        self.refused("NoProgram", "b", self.desk.drop, "b")
        self.refused("NoProgram", "b", self.desk.program, "b")

    def test_words_rise_as_texts(self):
        for word in ("p10", "p2", "b", "a9", "abc", "put", "a"):
            self.desk.put(word, ())
        self.assertEqual(self.desk.words(), ("a", "a9", "abc", "b", "p10", "p2", "put"))

    def test_40_programs_and_one_more(self):
        for index in range(40):
            self.desk.put("p" + str(index), send(index))
        self.refused("TooMany", 41, self.desk.put, "more", ())
        self.refused("BadProgram", (-1,), self.desk.put, "more", None)
        self.desk.put("p7", TO_1)
        self.assertEqual(self.desk.program("p7"), TO_1)
        self.assertEqual(len(self.desk.words()), 40)
        self.desk.drop("p8")
        self.desk.put("more", ())
        self.refused("TooMany", 41, self.desk.put, "p8", ())

    def test_a_refused_put_leaves_what_stood(self):
        self.desk.put("p", send(1))
        self.refused("BadProgram", (0,), self.desk.put, "p", (("do", "send", 0),))
        self.assertEqual(self.desk.program("p"), send(1))


class Questions(Asking):
    def test_alike_and_why(self):
        self.desk.put("p", send(3))
        self.desk.put("q", send(1))
        self.desk.put("r", send(1) + FULL)
        self.assertIs(self.desk.alike(one="p", two="q"), False)
        self.assertEqual(self.desk.why(one="p", two="q"), ("no", (0, ())))
        self.desk.say("ann", "less", LESS)
        self.assertIs(self.desk.alike("p", "q"), True)
        self.assertIs(self.desk.alike("p", "p"), True)
        self.assertIs(self.desk.alike("p", "r"), False)
        word, paper = self.desk.why("p", "q")
        self.assertEqual(word, "yes")
        self.assertIs(yes_right(self.desk.book(), send(3), send(1), paper), True)
        word, paper = self.desk.why("q", "r")
        self.assertEqual(word, "no")
        self.assertIs(no_right(self.desk.book(), send(1), send(1) + FULL, paper), True)
        self.desk.undo("ann")
        self.assertIs(self.desk.alike("p", "q"), False)

    def test_code_and_cheapest(self):
        self.desk.put("p", send(3) + TO_1)
        self.assertEqual(self.desk.cheapest(word="p"), (((3,), 1, 0), ((3,), 1, 0)))
        self.desk.say("ann", "less", LESS)
        self.assertEqual(self.desk.cheapest("p"), (((1,), 1, 0), ((1,), 1, 0)))
        self.assertEqual(self.desk.code(word="p"), code((SENDING, (LESS,)), send(3) + TO_1))
        self.desk.put("f", (FOREVER,))
        self.assertEqual(self.desk.cheapest("f"), (None, None))
        self.assertEqual(self.desk.code("f"), (("jump", 0),))

    def test_words_that_are_not_there(self):
        self.desk.put("p", ())
        for call in (self.desk.alike, self.desk.why):
            self.refused("NoProgram", "q", call, "q", "r")
            self.refused("NoProgram", "q", call, "p", "q")
            self.refused("NoProgram", "q", call, "q", "p")
        for call in (self.desk.code, self.desk.cheapest, self.desk.program, self.desk.drop):
            self.refused("NoProgram", "q", call, "q")

    def test_they_are_those_of_the_book(self):
        for seed in range(30):
            ground = (WIDE, SENDING, LOGGING)[seed % 3]
            chance = Chance(ground, seed)
            desk = Desk(ground)
            book = book_of(ground, chance.facts(3, 4, 0.2))
            for index, sides in enumerate(book[1]):
                desk.say(("ann", "bob")[index % 2], "w" + str(index), sides)
            programs = [chance.body(3) for _ in range(4)] + list(book[1][0] if book[1] else ())
            for index, program in enumerate(programs):
                desk.put("p" + str(index), program)
            self.assertEqual(desk.book(), book)
            self.assertEqual(desk.rules(), rules(book))
            for one, first in enumerate(programs):
                for two, second in enumerate(programs):
                    words = "p" + str(one), "p" + str(two)
                    self.assertIs(desk.alike(*words), alike(book, first, second))
                    self.assertEqual(desk.why(*words), why(book, first, second))
                self.assertEqual(desk.code("p" + str(one)), code(book, first))
                self.assertEqual(desk.cheapest("p" + str(one)), plain_form(book, first))


class CostsAndClasses(Asking):
    def lots(self):
        """Return the lots of the shelf, found pair by pair."""
        found = []
        for word in self.desk.words():
            for lot in found:
                if self.desk.alike(lot[0], word):
                    lot.append(word)
                    break
            else:
                found.append([word])
        return tuple(tuple(lot) for lot in found)

    def test_before_and_behind_a_law(self):
        for word, many in (("d", 1), ("a", 2), ("c", 3), ("b", 0)):
            self.desk.put(word, send(many))
        self.desk.put("e", send(2))
        self.assertEqual(self.desk.classes(), (("a", "e"), ("b",), ("c",), ("d",)))
        self.assertEqual(self.desk.costs(sides=LESS), (("a", "c"), ("a", "d"), ("c", "d"), ("c", "e"), ("d", "e")))
        self.assertEqual(self.desk.costs(EMPTY), ())
        self.desk.say("ann", "less", LESS)
        self.assertEqual(self.desk.classes(), (("a", "c", "d", "e"), ("b",)))
        self.assertEqual(self.desk.costs(LESS), ())
        self.assertEqual(self.desk.costs((send(1), ())), (("a", "b"), ("b", "c"), ("b", "d"), ("b", "e")))
        self.desk.undo("ann")
        self.assertEqual(self.desk.classes(), (("a", "e"), ("b",), ("c",), ("d",)))

    def test_empty_shelves(self):
        self.assertEqual(self.desk.classes(), ())
        self.assertEqual(self.desk.costs(LESS), ())
        self.desk.put("p", ())
        self.assertEqual(self.desk.classes(), (("p",),))
        self.assertEqual(self.desk.costs(LESS), ())

    def test_everything_and_never(self):
        self.desk.put("f", (FOREVER,))
        self.desk.put("g", (("while", ALWAYS, send(1)),))
        self.desk.put("s", send(3) + FULL)
        self.assertEqual(self.desk.classes(), (("f", "g"), ("s",)))
        self.assertEqual(self.desk.costs(ENDING), (("f", "s"), ("g", "s")))
        self.desk.say("ann", "end", ENDING)
        self.assertEqual(self.desk.classes(), (("f", "g", "s"),))

    def test_the_questions_change_nothing(self):
        self.desk.put("p", send(1))
        self.desk.say("ann", "w", LESS)
        before = told(self.desk)
        for _ in range(2):
            self.assertEqual((self.desk.costs((send(1), ())), self.desk.classes(), self.desk.rules()),
                             ((), (("p",),), (((2,), (1,)),)))
        self.assertEqual(told(self.desk), before)

    def test_shelves_as_chance_has_them(self):
        met = 0
        for seed in range(20):
            self.desk = Desk(WIDE)
            chance = Chance(WIDE, seed)
            for index, sides in enumerate(book_of(WIDE, chance.facts(2, 3, 0.2))[1]):
                self.desk.say("ann", "w" + str(index), sides)
            for index in range(12):
                self.desk.put("p" + str(index), chance.body(2) if index % 3 else doing(WIDE, chance.count(3)))
            self.assertEqual(self.desk.classes(), self.lots())
            words = self.desk.words()
            sides = (doing(WIDE, chance.count(2)), doing(WIDE, chance.count(2)))
            programs = tuple(self.desk.program(word) for word in words)
            expected = tuple((words[i], words[j]) for i, j in costs(self.desk.book(), sides, programs))
            self.assertEqual(self.desk.costs(sides), expected)
            met += len(expected)
        self.assertGreater(met, 20)


class Kept(Asking):
    def test_what_was_told_stays_as_it_was(self):
        self.desk.say("ann", "w", LESS)
        self.desk.put("p", send(2))
        before = self.desk.entries(), self.desk.book(), self.desk.rules(), self.desk.text(), self.desk.words(), self.desk.classes()
        copies = eval(repr(before))
        self.desk.strike("ann", "w")
        self.desk.say("bob", "v", ENDING)
        self.desk.drop("p")
        self.desk.put("q", ())
        self.assertEqual(before, copies)

    def test_what_is_handed_in_is_not_changed(self):
        chance = Chance(WIDE, 4)
        desk = Desk(WIDE)
        sides, program = (chance.body(3), ()), chance.body(3)
        copies = eval(repr((sides, program)))
        desk.put("p", program)
        desk.costs(((), chance.body(1)))
        self.assertIsNotNone(desk.program("p"))
        self.assertEqual((sides, program), copies)

    def test_two_desks_have_nothing_in_common(self):
        other = Desk(SENDING)
        self.desk.say("ann", "w", LESS)
        self.desk.put("p", ())
        self.assertEqual((other.entries(), other.words()), ((), ()))
        self.assertEqual(refusal(other.undo, "ann"), ("NothingToUndo", "ann"))

    def test_two_equal_desks_tell_the_same(self):
        other = Desk(SENDING)
        for desk in (self.desk, other):
            desk.say("ann", "w", LESS)
            desk.put("p", send(5))
            desk.put("q", send(1))
        self.assertEqual(told(self.desk), told(other))
        self.assertEqual(self.desk.why("p", "q"), other.why("p", "q"))


if __name__ == "__main__":
    unittest.main()
