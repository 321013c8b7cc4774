"""Point [75]: a desk as texts."""

import random
import unittest

from lawsleft.booktexts import print_entry
from lawsleft.desk import Desk, desk_of
from lawsleft.groundtexts import print_ground, read_ground
from lawsleft.printprograms import print_program
from tests.samples import JUNK, SENDING, WIDE, Chance, doing, refusal
from tests.second_reader import RESERVED

FIRST = "cells c 2; deeds send 5; exits done, full"
GROUND = read_ground(FIRST)


class Told(unittest.TestCase):
    def test_a_new_desk(self):
        self.assertEqual(Desk(GROUND).text(), (FIRST,))

    def test_laws_in_order_then_programs_rising(self):
        desk = Desk(GROUND)
        for row in ("put p send", "bob say w ~", "put b", "ann say less send 2 ~ send", "put a10 c := 1", "bob say v ~ send",
                    "put a9 exit full", "bob strike w"):
            self.assertEqual(desk.row(row), "ok")
        rows = (FIRST, "ann law less: send 2 ~ send", "bob law v: ~ send", "put a10 c := 1", "put a9 exit full", "put b", "put p send")
        self.assertEqual(desk.text(), rows)
        desk.undo("bob")
        self.assertEqual(desk.text(), (FIRST, "bob law w: ~") + rows[1:])

    def test_hands_of_any_name(self):
        desk = Desk(GROUND)
        desk.say("put", "put", ((), ()))
        desk.say("say", "book", ((("do", "send", 1),), ()))
        desk.put("put", ())
        self.assertEqual(desk.text(), (FIRST, "put law put: ~", "say law book: send ~", "put put"))
        self.assertEqual(desk_of(desk.text()).text(), desk.text())

    def test_the_parts_are_told_as_elsewhere(self):
        chance = Chance(WIDE, 11)
        desk = Desk(WIDE)
        for index in range(5):
            one, two = chance.body(2), chance.body(2)
            if refusal(desk.say, "ann", "w" + str(index), (one, two)) is None:
                self.assertEqual(desk.text()[-1], "ann " + print_entry(WIDE, "w" + str(index), (one, two)))
        program = chance.body(3) + (("do", "k", 1),)
        desk.put("p", program)
        self.assertEqual(desk.text()[0], print_ground(WIDE))
        self.assertEqual(desk.text()[-1], "put p " + print_program(WIDE, program))


class ThereAndBack(unittest.TestCase):
    def test_desks_as_chance_has_them(self):
        for seed in range(40):
            ground = (WIDE, SENDING)[seed % 2]
            chance, desk = Chance(ground, seed), Desk(ground)
            for _ in range(chance.random.randint(0, 40)):
                hand, word = chance.random.choice(("ann", "bob", "put", "book")), "w" + str(chance.random.randint(0, 20))
                deed = chance.random.choice(("say", "say", "strike", "put", "put", "drop", "undo", "redo"))
                arguments = {"say": (hand, word, (chance.body(2), chance.body(2))), "strike": (hand, word), "drop": (word,),
                             "put": (word, chance.body(2))}.get(deed, (hand,))
                refusal(getattr(desk, deed), *arguments)
            rows = desk.text()
            again = desk_of(rows=rows)
            self.assertEqual(again.text(), rows)
            self.assertEqual((again.entries(), again.words(), again.book()), (desk.entries(), desk.words(), desk.book()))
            self.assertEqual([again.program(word) for word in again.words()], [desk.program(word) for word in desk.words()])
            for hand in ("ann", "bob", "put", "book"):
                self.assertEqual(refusal(again.undo, hand), ("NothingToUndo", hand))
                self.assertEqual(refusal(again.redo, hand), ("NothingToRedo", hand))

    def test_blanks_mean_nothing(self):
        rows = (" cells c 2;deeds send 5;exits done,full ", "  ann  law  w:send~ ", " put  p  send ;send ")
        self.assertEqual(desk_of(rows).text(), (FIRST, "ann law w: send ~", "put p send; send"))

    def test_a_desk_that_was_told_goes_on(self):
        desk = desk_of((FIRST, "ann law w: send 2 ~ send", "put p send 2"))
        self.assertEqual(refusal(desk.say, "ann", "w", ((), ())), ("Twice", "w"))
        desk.say("ann", "v", ((), ()))
        desk.strike("ann", "w")
        self.assertEqual(desk.text(), (FIRST, "ann law v: ~", "put p send 2"))
        desk.undo("ann")
        self.assertEqual(desk.text(), (FIRST, "ann law w: send 2 ~ send", "ann law v: ~", "put p send 2"))
        desk.undo("ann")
        self.assertEqual(refusal(desk.undo, "ann"), ("NothingToUndo", "ann"))
        self.assertEqual(desk.row("code p"), "deed send 1 / exit done")

    def test_as_many_as_can_be(self):
        rows = (FIRST,) + tuple("ann law w" + str(index) + ": ~" for index in range(30))
        rows += tuple("put p" + str(index) for index in range(10, 50))
        desk = desk_of(rows)
        self.assertEqual(desk.text(), rows)
        self.assertEqual(refusal(desk.undo, "ann"), ("NothingToUndo", "ann"))


class Wrong(unittest.TestCase):
    def refused(self, place, *rows):
        self.assertEqual(refusal(desk_of, rows), ("BadRow", place))

    def test_rows_that_are_no_tuple_or_empty(self):
        for thing in JUNK + ("", FIRST):
            if not isinstance(thing, tuple) or not thing:
                self.assertEqual(refusal(desk_of, thing), ("BadRow", (-1, 0)))
        self.refused((-1, 0))

    def test_a_first_row_that_is_no_ground(self):
        for thing in (None, 1, (), ("cells",)):
            self.refused((0, -1), thing)
            self.refused((0, -1), thing, None)
        self.refused((0, 0), "")
        self.refused((0, 0), "put p")
        self.refused((0, 0), "ann law w: ~")
        self.refused((0, 8), "cells a 9; deeds; exits done")
        self.refused((0, 11), "cells a 2, a 2; deeds; exits done")
        self.refused((0, 20), "cells; deeds; exits ", "put")
        self.refused((0, 20000), " " * 20001)
        self.refused((0, 5), "cells" + chr(37))
        for thing in JUNK:
            if isinstance(thing, tuple) and thing:
                self.assertEqual(refusal(desk_of, thing)[0], "BadRow")

    def test_further_rows_that_cannot_be_read(self):
        for thing in (None, 1, (), ("put p",)):
            self.refused((1, -1), FIRST, thing)
        for row, place in (("", 0), ("   ", 3), ("put", 3), ("put p pay", 6), ("put p send 10", 11), ("put p send;", 11), ("put 7", 4),
                           ("put p ~", 6), ("put p send send", 11), ("ann", 3), ("ann law", 7), ("ann law w", 9), ("ann law w:", 10),
                           ("ann law w: send", 15), ("ann law w ~", 10), ("ann law law: ~", 8), ("ann law w: ~ pay", 13),
                           ("ann law w: ~ ~", 13), ("law w: ~", 0), ("7 law w: ~", 0), ("if law w: ~", 0), ("ann say w ~", 4),
                           ("ann strike w", 4), ("ann undo", 4), ("drop p", 5), ("drop", 4), ("classes", 7), ("book p", 5),
                           ("alike p p", 6), ("costs ~", 6), ("cells; deeds; exits done", 0), (FIRST, 0), ("put p" + chr(10), 5),
                           (" " * 20001, 20000), ("put p " + ";".join(["send"] * 41), 206), ("put p c := " + "(" * 13, 23),
                           ("ann law w: catch {} full {} full {} ~", 28), ("put law", 7), ("put law w ~", 10), ("put law 7: ~", 8)):
            self.refused((1, place), FIRST, row)
            self.refused((2, place), FIRST, "ann law v: ~", row, None)
            self.refused((3, place), FIRST, "ann law v: ~", "bob law v: ~", row, "")
        for word in RESERVED:
            self.refused((1, 0), FIRST, word + " law w: ~")
            if word != "law":
                self.refused((1, 4), FIRST, "put " + word)
                self.refused((1, 4), FIRST, "ann " + word + " w: ~")
            self.refused((1, 8), FIRST, "ann law " + word + ": ~")

    def test_hands_that_are_called_as_rows(self):
        for hand in ("put", "drop", "alike", "code", "cost", "costs", "classes", "book", "rules", "say", "undo"):
            desk = desk_of((FIRST, hand + " law w: ~"))
            self.assertEqual(desk.entries(), ((hand, "w", ((), ())),))
        self.refused((2, 8), FIRST, "put p", "put law w: ~")
        self.refused((2, 8), FIRST, "put law w: ~", "put law w: send ~")

    def test_a_law_behind_a_program(self):
        self.refused((2, 8), FIRST, "put p", "ann law w: ~")
        self.refused((3, 12), FIRST, "ann law v: ~", "put p send", "  ann  law  w: ~", "put p")
        self.refused((2, 13), FIRST, "put p", "ann law w: ~ pay")

    def test_the_31st_law(self):
        rows = (FIRST,) + tuple("ann law w" + str(index) + ": ~" for index in range(30))
        self.refused((31, 8), *rows, "bob law w: ~")
        self.refused((31, 9), *rows, "bob  law w: ~")
        self.refused((31, 8), *rows, "bob law w: ~", None)
        self.refused((31, 13), *rows, "bob law w: ~ pay")

    def test_a_word_twice(self):
        self.refused((2, 8), FIRST, "ann law w: ~", "ann law w: send ~ send 2")
        self.refused((3, 8), FIRST, "ann law w: ~", "bob law w: ~", "bob law w: ~")
        self.assertEqual(len(desk_of((FIRST, "ann law w: ~", "bob law w: ~")).entries()), 2)

    def test_a_part_above_40(self):
        forty = "; ".join(["send 9"] * 4 + ["send 4"])
        self.assertEqual(desk_of((FIRST, "ann law w: " + forty + " ~")).rules(), (((40,), (0,)),))
        self.refused((1, 8), FIRST, "ann law w: " + forty + "; send ~")
        self.refused((2, 8), FIRST, "bob law w: ~", "ann law w: ~ " + forty + "; send")

    def test_the_41st_program(self):
        rows = (FIRST,) + tuple("put p" + str(index) for index in range(10, 50))
        self.refused((41, 4), *rows, "put q")
        self.refused((41, 7), *rows, "  put  q send", None)
        self.refused((41, 6), *rows, "put q pay")

    def test_words_that_do_not_rise(self):
        self.refused((2, 4), FIRST, "put p", "put p")
        self.refused((2, 4), FIRST, "put p", "put b send")
        self.refused((3, 4), FIRST, "put a9", "put b", "put a91")
        self.refused((3, 5), FIRST, "put a", "put c", "put  b", "put d")
        self.assertEqual(desk_of((FIRST, "put a", "put a9", "put b")).words(), ("a", "a9", "b"))
        self.refused((2, 4), FIRST, "put p2", "put p10")

    def test_the_first_wrong_row_is_told(self):
        self.refused((1, 4), FIRST, "put 7", None)
        self.refused((2, 4), FIRST, "put b", "put a", "put 7", None)
        self.refused((0, 0), "put 7", None)

    def test_each_row_of_a_desk_left_out_doubled_or_exchanged(self):
        rows = (FIRST, "ann law v: ~", "ann law w: send ~", "bob law v: ~", "put a", "put b send", "put c")
        chance = random.Random(3)
        for at in range(1, len(rows)):
            desk = desk_of(rows[:at] + rows[at + 1:])
            self.assertEqual(desk.text(), rows[:at] + rows[at + 1:])
            self.refused((at + 1, 8 if at < 4 else 4), *rows[:at + 1], *rows[at:])
            other = chance.choice([index for index in range(1, 7) if index != at])
            low, high = min(at, other), max(at, other)
            mixed = list(rows)
            mixed[low], mixed[high] = mixed[high], mixed[low]
            if high < 4:
                self.assertEqual(desk_of(tuple(mixed)).text(), tuple(mixed))
            else:
                self.assertEqual(refusal(desk_of, tuple(mixed))[0], "BadRow")

    def test_what_is_handed_in_is_not_changed(self):
        rows = (FIRST, "ann law v: ~", "put a")
        desk = desk_of(rows)
        desk.drop("a")
        desk.say("ann", "w", ((), doing(GROUND, (3,))))
        self.assertEqual(rows, (FIRST, "ann law v: ~", "put a"))
        self.assertEqual(desk_of(rows).text(), desk_of(rows).text())


if __name__ == "__main__":
    unittest.main()
