"""Points [64], [65] and [66]: laws and entries, told and read as texts."""

import random
import unittest

from lawsleft.booktexts import print_entry, print_law, read_entry, read_law
from tests.samples import JUNK, SENDING, WIDE, Chance, refusal
from tests.second_reader import bent_text, second_entry, second_law

GROUND = ((("a", 2),), (("send", 5), ("log", 1)), ("done", "full"))
SEND = ("do", "send", 1)
LOG = ("do", "log", 1)
FULL = ("exit", "full")


class Laws(unittest.TestCase):
    def told(self, text, one, two):
        self.assertEqual(print_law(GROUND, (one, two)), text)
        self.assertEqual(read_law(GROUND, text), (one, two))

    def refused(self, text, word, place):
        self.assertEqual(refusal(read_law, GROUND, text), (word, place))
        self.assertEqual(second_law(GROUND, text), (word, place))

    def test_the_examples(self):
        self.told("send; send ~ send", (SEND, SEND), (SEND,))
        self.told("~ log", (), (LOG,))
        self.told("~", (), ())
        self.assertEqual(print_law(ground=GROUND, sides=((SEND, SEND), (SEND,))), "send; send ~ send")
        self.assertEqual(read_law(ground=GROUND, text="send; send ~ send"), ((SEND, SEND), (SEND,)))

    def test_an_empty_side(self):
        self.told("send ~", (SEND,), ())
        self.told("~ send; exit full", (), (SEND, FULL))
        self.assertEqual(read_law(GROUND, "~send"), ((), (SEND,)))
        self.assertEqual(read_law(GROUND, "send~"), ((SEND,), ()))
        self.assertEqual(read_law(GROUND, "  ~  "), ((), ()))

    def test_longer_ones(self):
        test = ("less", ("cell", "a"), ("num", 1))
        self.told("while a < 1 { send 2 } ~ if a < 1 {} else { log }", (("while", test, (("do", "send", 2),)),),
                  (("if", test, (), (LOG,)),))

    def test_words_that_cannot_stand(self):
        for text, place in (("", 0), ("send", 4), ("send;", 5), ("send; ~ log", 6), ("~ ;", 2), ("~ log;", 6), ("~ ~", 2), ("send log ~", 5),
                            ("~ log log", 6), ("send : log", 5), ("send, ~", 4), ("while a = 0 { ~ }", 14), ("while a = 0 ~", 12), ("a ~", 2),
                            ("a := ~", 5), ("exit ~", 5), ("~ }", 2), ("send ~ send ~ send", 12), ("law w: ~", 0)):
            self.refused(text, "BadText", place)
        self.refused("send 10 ~ pay", "BadNumber", 5)
        self.refused("send ~ pay", "NoName", 7)
        self.refused("send ~ catch {} full {} full {}", "Twice", 24)
        self.refused("~ while not not not not not not a = 0 {}", "TooDeep", 8)

    def test_each_side_is_counted_by_itself(self):
        forty = ";".join(["send"] * 40)
        self.assertEqual(read_law(GROUND, forty + "~" + forty), ((SEND,) * 40, (SEND,) * 40))
        self.refused(forty + ";send ~", "TooMany", 200)
        self.refused(forty + "~" + forty + ";send", "TooMany", 400)
        self.refused(forty + ";pay ~", "TooMany", 200)
        many = ";".join(["catch{" + ";".join(["log"] * 39) + "}"] * 3)
        sides = read_law(GROUND, many + "~" + many)
        self.assertEqual([len(side) for side in sides], [3, 3])
        self.refused(many + ";log ~", "TooMany", len(many) + 1)
        self.refused(many + "~" + many + ";log", "TooMany", 2 * len(many) + 2)

    def test_bodies_and_brackets_of_each_side(self):
        deep = "catch {" * 11 + "}" * 11
        bracketed = "a := " + "(" * 12 + "a" + ")" * 12
        self.assertEqual(len(read_law(GROUND, deep + ";" + bracketed + "~" + deep + ";" + bracketed)[1]), 2)
        self.refused("~" + "catch {" * 12, "TooDeep", 1 + 77 + 6)
        self.refused("~ a := " + "(" * 13, "TooDeep", 7 + 12)

    def test_wrong_laws(self):
        for thing in JUNK + (((),), ((), (), ()), ((SEND,), None), (None, ()), (((FULL,), (("exit", "done"),)))):
            self.assertEqual(refusal(print_law, GROUND, thing), ("BadLaw", 0))
        self.assertEqual(refusal(print_law, GROUND, (((SEND,) * 41), ())), ("BadLaw", 0))
        self.assertEqual(refusal(print_law, ((), (), ()), None), ("BadGround", (2, -1)))
        for thing in JUNK:
            self.assertEqual(refusal(print_law, thing, None)[0], "BadGround")
            self.assertEqual(refusal(read_law, thing, None)[0], "BadGround")
        self.assertEqual(refusal(read_law, GROUND, None), ("BadText", -1))

    def test_great_counts_are_no_fault_of_texts(self):
        sides = ((("do", "send", 9),) * 9, ())
        self.assertEqual(read_law(GROUND, print_law(GROUND, sides)), sides)

    def test_there_and_back(self):
        chance = random.Random(5)
        for seed in range(200):
            ground = (WIDE, SENDING)[seed % 2]
            sides = (Chance(ground, seed).body(3), Chance(ground, -seed).body(2))
            text = print_law(ground, sides)
            self.assertEqual(read_law(ground, text), sides)
            for _ in range(4):
                other = bent_text(text, chance)
                told = refusal(read_law, ground, other)
                found = read_law(ground, other) if told is None else told
                self.assertEqual(found, second_law(ground, other), other)
                if told is None:
                    self.assertEqual(read_law(ground, print_law(ground, found)), found)


class Entries(unittest.TestCase):
    def refused(self, text, word, place):
        self.assertEqual(refusal(read_entry, GROUND, text), (word, place))
        self.assertEqual(second_entry(GROUND, text), (word, place))

    def test_the_example(self):
        sides = ((SEND, SEND), (SEND,))
        self.assertEqual(print_entry(ground=GROUND, word="once", sides=sides), "law once: send; send ~ send")
        self.assertEqual(read_entry(ground=GROUND, text="law once: send; send ~ send"), ("once", sides))

    def test_empty_sides_and_blanks(self):
        self.assertEqual(print_entry(GROUND, "w", ((), ())), "law w: ~")
        self.assertEqual(print_entry(GROUND, "w", ((), (SEND,))), "law w: ~ send")
        self.assertEqual(print_entry(GROUND, "w", ((SEND,), ())), "law w: send ~")
        self.assertEqual(read_entry(GROUND, "law w:~"), ("w", ((), ())))
        self.assertEqual(read_entry(GROUND, "  law   w  :  send~send  "), ("w", ((SEND,), (SEND,))))

    def test_names_of_any_sort(self):
        for name in ("a", "send", "done", "say", "put", "abcdefghijkl", "x9"):
            self.assertEqual(read_entry(GROUND, "law " + name + ": ~"), (name, ((), ())))
            self.assertEqual(print_entry(GROUND, name, ((), ())), "law " + name + ": ~")

    def test_names_that_are_spoilt(self):
        for name in ("A", "1a", "7", "law", "if", "cells", "abcdefghijklm", "_", "~", ":", ";"):
            self.refused("law " + name + ": ~", "BadText", 4)
        for thing in ("", "A", "1a", "7", "law", "if", "cells", "abcdefghijklm", "a b", "a:", " a", "a-b", "\u00e9"):
            self.assertEqual(refusal(print_entry, GROUND, thing, None), ("BadName", thing))
        for thing in JUNK:
            if thing != "a":
                self.assertEqual(refusal(print_entry, GROUND, thing, ((), ())), ("BadName", thing))

    def test_words_that_cannot_stand(self):
        for text, place in (("", 0), ("law", 3), ("law w", 5), ("law w:", 6), ("law w: send", 11), ("w: ~", 0), ("send ~", 0),
                            ("law : ~", 4), ("law w ~", 6), ("law w := ~", 6), ("law w w: ~", 6), ("law w: : ~", 7), ("law w:: ~", 6),
                            ("law w: ~ ~", 9), ("law law w: ~", 4), ("laws w: ~", 0), ("ann law w: ~", 0)):
            self.refused(text, "BadText", place)
        self.refused("law w: pay ~", "NoName", 7)
        self.refused("law w: ~ send 10", "BadNumber", 14)
        self.refused("law w: " + ";".join(["log"] * 41) + "~", "TooMany", 7 + 160)

    def test_which_error_comes_first(self):
        self.assertEqual(refusal(print_entry, ((), (), ()), "A", None), ("BadGround", (2, -1)))
        self.assertEqual(refusal(print_entry, GROUND, "A", None), ("BadName", "A"))
        self.assertEqual(refusal(print_entry, GROUND, "a", None), ("BadLaw", 0))
        self.assertEqual(refusal(print_entry, GROUND, "a", ((), (SEND, None))), ("BadLaw", 0))
        self.assertEqual(refusal(read_entry, ((), (), ()), None), ("BadGround", (2, -1)))
        for thing in (None, 1, ()):
            self.assertEqual(refusal(read_entry, GROUND, thing), ("BadText", -1))
        for thing in JUNK:
            self.assertEqual(refusal(print_entry, thing, None, None)[0], "BadGround")
            self.assertEqual(refusal(read_entry, thing, None)[0], "BadGround")

    def test_there_and_back(self):
        chance = random.Random(6)
        for seed in range(200):
            ground = (WIDE, SENDING)[seed % 2]
            sides = (Chance(ground, seed).body(2), Chance(ground, -seed).body(2))
            text = print_entry(ground, "w" + str(seed), sides)
            self.assertEqual(read_entry(ground, text), ("w" + str(seed), sides))
            for _ in range(4):
                other = bent_text(text, chance)
                told = refusal(read_entry, ground, other)
                self.assertEqual(read_entry(ground, other) if told is None else told, second_entry(ground, other), other)

    def test_nothing_is_changed(self):
        sides = (Chance(WIDE, 1).body(3), Chance(WIDE, 2).body(3))
        copy = eval(repr(sides))
        self.assertEqual(print_entry(WIDE, "w", sides), "law w: " + print_law(WIDE, copy))
        self.assertEqual(sides, copy)


if __name__ == "__main__":
    unittest.main()
