"""Points [73] and [74]: the rows of the desk and its answers."""

import random
import unittest

from lawsleft.codetexts import print_code
from lawsleft.desk import Desk
from lawsleft.groundtexts import read_ground
from lawsleft.readprograms import read_program
from tests.samples import BARE, JUNK, refusal
from tests.second_reader import RESERVED, Reader, Wrong, bent_text

GROUND = read_ground("cells c 2; deeds send 5; exits done, full")
TWO_KINDS = read_ground("cells; deeds l 1, f 5; exits done, full")
OWN = ("put", "drop", "alike", "code", "cost", "costs", "classes", "book", "rules")
FORMS = {
    "put": ("n", "program"), "drop": ("n",), "alike": ("n", "n"), "code": ("n",), "cost": ("n",),
    "costs": ("program", "~", "program"), "classes": (), "book": (), "rules": (),
    "say": ("n", "program", "~", "program"), "strike": ("n",), "undo": (), "redo": (),
}


def second_refusal(ground, text):
    """Return the error with which a second way of reading refuses a row, None if it reads it."""
    reader = Reader(ground, text)
    try:
        first, place = reader.take("n")
        deed = first
        if first not in OWN:
            deed, place = reader.take("n")
            if deed not in ("say", "strike", "undo", "redo"):
                return "BadText", place
        reader.whole(*FORMS[deed])
    except Wrong as error:
        return error.told
    return None


class Asking(unittest.TestCase):
    ground = GROUND

    def setUp(self):
        self.desk = Desk(self.ground)

    def told(self, row, answer):
        self.assertEqual(self.desk.row(row), answer)

    def refused(self, row, answer):
        """Ask that a row is refused, and that it changes nothing."""
        before = self.desk.text()
        self.told(row, "refused: " + answer)
        self.assertEqual(self.desk.text(), before)


class Examples(Asking):
    def test_all_of_them(self):
        self.told("ann say less send 2 ~ send", "ok")
        self.told("rules", "2 > 1")
        self.told("book", "ann law less: send 2 ~ send")
        self.told("put p send 3; c := 1", "ok")
        self.told("cost p", "1: 5; 1: 5")
        self.told("code p", "switch c 1 4 / deed send 1 / set c := 1 / exit done / deed send 1 / exit done")
        self.refused("drop q", "NoProgram q")
        self.refused("ann strike", "BadText 10")
        self.refused("put p pay", "NoName 6")
        self.assertEqual(self.desk.row(text="rules"), "2 > 1")


class Deeds(Asking):
    def test_of_hands(self):
        self.told("ann say w send ~", "ok")
        self.told("bob say w ~", "ok")
        self.assertEqual([entry[:2] for entry in self.desk.entries()], [("ann", "w"), ("bob", "w")])
        self.assertEqual(self.desk.entries()[0][2], ((("do", "send", 1),), ()))
        self.told("ann strike w", "ok")
        self.told("ann undo", "ok")
        self.told("ann undo", "ok")
        self.refused("ann undo", "NothingToUndo ann")
        self.told("ann redo", "ok")
        self.told("ann redo", "ok")
        self.refused("ann redo", "NothingToRedo ann")
        self.assertEqual([entry[:2] for entry in self.desk.entries()], [("bob", "w")])

    def test_about_the_shelf(self):
        self.told("put p", "ok")
        self.told("put q exit full", "ok")
        self.assertEqual(self.desk.words(), ("p", "q"))
        self.assertEqual(self.desk.program("p"), ())
        self.told("put p send", "ok")
        self.assertEqual(self.desk.program("p"), (("do", "send", 1),))
        self.told("drop p", "ok")
        self.assertEqual(self.desk.words(), ("q",))

    def test_words_and_hands_of_any_name(self):
        for name in OWN + ("say", "strike", "undo", "redo", "c", "send", "full", "done"):
            self.told("put " + name + " send 2", "ok")
            self.told("code " + name, "deed send 2 / exit done")
            self.told("ann say " + name + " ~", "ok")
            self.told("ann undo", "ok")
            self.told("drop " + name, "ok")
        for hand in ("say", "strike", "undo", "redo", "c", "send"):
            self.told(hand + " say w ~", "ok")
            self.told(hand + " strike w", "ok")
            self.told(hand + " undo", "ok")
            self.told(hand + " redo", "ok")

    def test_hands_that_have_no_rows(self):
        for hand in OWN:
            self.desk = Desk(GROUND)
            for rest in ("say w ~", "strike w", "undo", "redo"):
                row = hand + " " + rest
                answer = self.desk.row(row)
                if hand in ("classes", "book", "rules"):
                    self.assertEqual(answer, "refused: BadText " + str(len(hand) + 1))
                elif hand == "put":
                    expected = {"say w ~": "NoName 8", "strike w": "NoName 11"}.get(rest)
                    self.assertEqual(answer, "refused: " + expected if expected else "ok")
                elif hand == "costs":
                    self.assertEqual(answer, "refused: NoName 6")
                elif hand == "alike":
                    expected = {"say w ~": "BadText 12", "strike w": "NoProgram strike"}.get(rest, "BadText " + str(len(row)))
                    self.assertEqual(answer, "refused: " + expected)
                elif rest in ("undo", "redo"):
                    self.assertEqual(answer, "refused: NoProgram " + rest)
                else:
                    self.assertEqual(answer, "refused: BadText " + str(len(hand) + len(rest.split()[0]) + 2))
        self.assertEqual(self.desk.entries(), ())
        self.desk.say("put", "w", ((), ()))
        self.told("book", "put law w: ~")

    def test_more_blanks(self):
        self.told("  ann   say   less   send  2~send  ", "ok")
        self.told("  put   p   send 3;c:=1 ", "ok")
        self.told("   cost    p ", "1: 5; 1: 5")
        self.told(" alike p  p ", "yes")
        self.told("  rules  ", "2 > 1")
        self.told(" ann  undo ", "ok")


class Refused(Asking):
    ROWS = ("ann say less send 2 ~ send", "ann strike less", "ann undo", "ann redo", "put p send 3", "drop p", "alike p q",
            "code p", "cost p", "costs send ~ exit full", "classes", "book", "rules")

    def test_a_word_lacking_at_the_end(self):
        for row in self.ROWS:
            words = row.split()
            for many in range(len(words)):
                cut = " ".join(words[:many])
                expected = second_refusal(GROUND, cut)
                if expected is not None:
                    self.refused(cut, "BadText " + str(len(cut)))
                    self.assertEqual(expected, ("BadText", len(cut)))
        for row in ("", "ann", "ann say", "ann say w", "ann say w send", "ann strike", "put", "drop", "alike", "alike p", "code",
                    "cost", "costs", "costs send"):
            self.refused(row, "BadText " + str(len(row)))

    def test_a_word_too_many_or_too_few_at_each_place(self):
        for row in self.ROWS:
            words = row.split()
            for at in range(len(words) + 1):
                for other in (words[:at] + words[at + 1:], *(words[:at] + [word] + words[at:] for word in
                                                            ("x", "send", "7", ";", "~", ":", "law", "{", "put", "undo"))):
                    self.judged(" ".join(other))

    def judged(self, text):
        expected = second_refusal(GROUND, text)
        if expected is None:
            return False
        before = self.desk.text()
        self.assertEqual(self.desk.row(text), "refused: " + expected[0] + " " + str(expected[1]), text)
        self.assertEqual(self.desk.text(), before)
        return True

    def test_rows_bent_by_chance(self):
        chance = random.Random(1)
        refused = 0
        for _ in range(1500):
            refused += self.judged(bent_text(chance.choice(self.ROWS), chance))
        self.assertGreater(refused, 500)

    def test_first_and_second_words(self):
        for word in RESERVED + ["7", ";", "~", ":", "2a", "A", "{", "abcdefghijklm"]:
            self.refused(word + " undo", "BadText 0")
            self.refused("ann " + word, "BadText 4")
            self.refused("drop " + word, "BadText 5")
        for word in ("put", "drop", "book", "says", "ann", "law1"):
            self.refused("ann " + word + " w", "BadText 4")
        self.refused("ann law w: ~", "BadText 4")
        self.refused("law w: ~", "BadText 0")
        self.refused("ann: say w ~", "BadText 3")

    def test_the_place_is_one_of_the_whole_row(self):
        self.refused("ann say w send 10 ~", "BadNumber 15")
        self.refused("ann say w ~ exit done", "NoName 17")
        self.refused("costs ~ catch {} full {} full {}", "Twice 25")
        self.refused("put p c := " + "(" * 13, "TooDeep 23")
        self.refused("put p " + ";".join(["send"] * 41), "TooMany 206")
        self.refused("put p send" + chr(37), "BadText 10")
        self.refused(" " * 20001, "BadText 20000")
        self.refused("put p\n", "BadText 5")
        for thing in (None, 1, (), ("book",)):
            self.refused(thing, "BadText -1")

    def test_nothing_is_done_of_a_row_that_is_refused_while_it_is_read(self):
        self.told("put p send", "ok")
        self.told("ann say v ~", "ok")
        for row in ("put p send; pay", "put p send ~", "drop p p", "ann strike v v", "ann undo v", "ann say w send ~ send pay",
                    "ann say w send ~ send ~", "put q ;", "ann redo 1"):
            self.assertEqual(self.desk.row(row)[:9], "refused: ")
        self.assertEqual(self.desk.words(), ("p",))
        self.assertEqual(self.desk.program("p"), (("do", "send", 1),))
        self.told("book", "ann law v: ~")
        self.told("ann undo", "ok")
        self.refused("ann undo", "NothingToUndo ann")

    def test_refused_when_it_is_done(self):
        self.told("ann say w send 2 ~ send", "ok")
        self.refused("ann say w ~", "Twice w")
        self.refused("ann strike v", "NoLaw v")
        self.refused("bob strike w", "NoLaw w")
        self.refused("bob undo", "NothingToUndo bob")
        self.refused("ann redo", "NothingToRedo ann")
        self.refused("ann say v " + "; ".join(["send 9"] * 5) + " ~", "TooGreat 0")
        self.refused("costs " + "; ".join(["send 9"] * 5) + " ~", "TooGreat 0")
        self.refused("drop p", "NoProgram p")
        self.refused("code p", "NoProgram p")
        self.refused("cost p", "NoProgram p")
        self.refused("alike p q", "NoProgram p")
        self.told("put p", "ok")
        self.refused("alike p q", "NoProgram q")
        self.refused("alike q p", "NoProgram q")

    def test_too_many(self):
        for index in range(40):
            self.told("put p" + str(index), "ok")
        self.refused("put p40", "TooMany 41")
        self.told("put p39 send", "ok")
        for index in range(30):
            self.told("ann say w" + str(index) + " ~", "ok")
        self.refused("bob say w ~", "TooMany 31")
        self.refused("costs ~", "TooMany 31")
        self.refused("ann say w0 ~", "Twice w0")
        self.told("ann strike w0", "ok")
        self.told("bob say w ~", "ok")
        self.refused("ann undo", "TooMany 31")
        self.told("bob undo", "ok")
        self.told("ann undo", "ok")
        self.refused("bob redo", "TooMany 31")


class Answers(Asking):
    def test_empty_ones(self):
        self.told("classes", "empty")
        self.told("book", "empty")
        self.told("rules", "empty")
        self.told("costs send ~", "none")
        self.told("ann say w ~", "ok")
        self.told("rules", "empty")
        self.told("book", "ann law w: ~")

    def test_alike(self):
        self.told("put p send 2", "ok")
        self.told("put q send", "ok")
        self.told("alike p q", "no")
        self.told("alike p p", "yes")
        self.told("ann say w send 2 ~ send", "ok")
        self.told("alike p q", "yes")

    def test_code(self):
        self.told("put p while c = 0 {}; exit full", "ok")
        self.told("code p", "switch c 1 2 / jump 1 / exit full")
        self.assertEqual(self.desk.row("code p"), print_code(GROUND, self.desk.code("p")))

    def test_cost(self):
        self.told("put p if c = 0 { while c = 0 {} } else { send 4 }", "ok")
        self.told("cost p", "never; 4: 20")
        self.told("ann say w send 3 ~ while c = c {}", "ok")
        self.told("cost p", "3: 15; 3: 15")
        self.told("put q", "ok")
        self.told("cost q", "0: 0; 0: 0")

    def test_costs_and_classes(self):
        for row in ("put d send", "put a send 2", "put c send 3", "put b", "put e send; send"):
            self.told(row, "ok")
        self.told("classes", "a e; b; c; d")
        self.told("costs send 2 ~ send", "a c, a d, c d, c e, d e")
        self.told("costs ~", "none")
        self.told("ann say w send 2 ~ send", "ok")
        self.told("classes", "a c d e; b")
        self.told("costs send 2 ~ send", "none")
        self.told("costs ~ send", "a b, b c, b d, b e")

    def test_book_and_rules(self):
        self.told("ann say less send 2 ~ send", "ok")
        self.told("bob say gone ~ send 2; exit full", "ok")
        self.told("cid say none ~", "ok")
        self.told("book", "ann law less: send 2 ~ send / bob law gone: ~ send 2; exit full / cid law none: ~")
        self.told("rules", "0 > all")
        self.told("bob undo", "ok")
        self.told("ann say end send; exit full ~ send", "ok")
        self.told("rules", "1 > all")


class SeveralKinds(Asking):
    ground = TWO_KINDS

    def test_counts(self):
        self.told("ann say m f ~ l; f", "ok")
        self.told("rules", "1 1 > 0 1")
        self.told("put p l 3; f 2", "ok")
        self.told("cost p", "0 2: 10")
        self.told("put q l 9; l 9; l 9", "ok")
        self.told("cost q", "27 0: 27")
        self.told("ann say all f 2 ~ exit full", "ok")
        self.told("rules", "0 0 > all")
        self.told("ann undo", "ok")
        self.told("ann say all f 2 ~ f 2; exit full", "ok")
        self.told("rules", "1 1 > 0 1 / 0 2 > all")
        self.told("cost p", "0 2: 10")
        self.told("put r while 0 = 0 {}", "ok")
        self.told("cost r", "0 2: 10")
        self.told("classes", "p r; q")


class NoKinds(Asking):
    ground = BARE

    def test_counts(self):
        self.told("put p", "ok")
        self.told("put f while 0 = 0 {}", "ok")
        self.told("cost p", "-: 0")
        self.told("cost f", "never")
        self.told("rules", "empty")
        self.told("ann say w ~ while 0 = 0 {}", "ok")
        self.told("rules", "- > all")
        self.told("cost f", "-: 0")
        self.told("code f", "exit done")


class AsTheMethods(Asking):
    def test_rows_do_what_the_methods_do(self):
        chance = random.Random(9)
        other = Desk(GROUND)
        texts = ("send 2", "send", "", "c := 1", "exit full", "while c = 0 { send }", "send 3; exit full")
        refused = 0
        for _ in range(600):
            hand, word = chance.choice(("ann", "bob")), "w" + str(chance.randint(0, 5))
            one, two = chance.choice(texts), chance.choice(texts)
            sides = read_program(GROUND, one), read_program(GROUND, two)
            deed = chance.choice(("say", "strike", "undo", "redo", "put", "drop"))
            row, arguments = {
                "say": (hand + " say " + word + " " + one + " ~ " + two, (hand, word, sides)),
                "strike": (hand + " strike " + word, (hand, word)), "undo": (hand + " undo", (hand,)),
                "redo": (hand + " redo", (hand,)), "put": ("put " + word + " " + one, (word, sides[0])),
                "drop": ("drop " + word, (word,)),
            }[deed]
            expected = refusal(getattr(other, deed), *arguments)
            answer = "ok" if expected is None else "refused: " + expected[0] + " " + str(expected[1])
            self.told(row, answer)
            self.assertEqual(self.desk.text(), other.text())
            refused += expected is not None
            if chance.random() < 0.1:
                self.assertEqual(self.desk.row("classes"),
                                 "; ".join(" ".join(lot) for lot in other.classes()) or "empty")
        self.assertGreater(refused, 50)

    def test_equal_calls_tell_the_same(self):
        for row in ("put p send 2", "put p send 2", "ann say w send 2 ~ send"):
            self.told(row, "ok")
        for row in ("cost p", "code p", "classes", "book", "rules", "costs ~ send", "alike p p"):
            self.assertEqual(self.desk.row(row), self.desk.row(row))

    def test_things_that_are_no_texts(self):
        for thing in JUNK:
            if not isinstance(thing, str):
                self.told(thing, "refused: BadText -1")


if __name__ == "__main__":
    unittest.main()
