"""Point [55]: texts, their words and places, in all that is read."""

import unittest

from lawsleft.booktexts import read_entry, read_law
from lawsleft.desk import Desk, desk_of
from lawsleft.groundtexts import read_ground
from lawsleft.readprograms import read_program
from tests.samples import SENDING, refusal

GROUND = ((("a", 2), ("bc", 8)), (("send", 5), ("abcdefghijkl", 1)), ("done", "full"))


def program(text):
    return read_program(GROUND, text)


class Signs(unittest.TestCase):
    def everywhere(self, text, place):
        """Ask that a text is refused there, whatever is read from it."""
        self.assertEqual(refusal(read_ground, text), ("BadText", place))
        for call in (read_program, read_law, read_entry):
            self.assertEqual(refusal(call, GROUND, text), ("BadText", place))
        self.assertEqual(Desk(GROUND).row(text), "refused: BadText " + str(place))
        self.assertEqual(refusal(desk_of, (text,)), ("BadRow", (0, place)))
        self.assertEqual(refusal(desk_of, ("cells; deeds; exits done", text)), ("BadRow", (1, place)))

    def test_what_is_no_text(self):
        for thing in (None, 0, True, ("send",), (), b"send"):
            self.everywhere(thing, -1)

    def test_signs_that_no_text_has(self):
        for code in (0, 9, 10, 31, 37, 127, 160, 233, 8364, 0x1f600):
            self.everywhere(chr(code), 0)
            self.everywhere("send" + chr(code), 4)
            self.everywhere("; ; ; " + chr(code) + chr(37), 6)
            self.everywhere(" " * 19999 + chr(code), 19999)

    def test_all_other_signs_are_refused_where_they_stand(self):
        for code in range(32, 127):
            sign = chr(code)
            if code == 37:
                continue
            told = refusal(read_program, GROUND, "send " + sign)
            if sign in "12345 6789;":
                self.assertEqual(told, None if sign != ";" else ("BadText", 6))
            else:
                self.assertEqual(told, ("BadNumber" if sign == "0" else "BadText", 5))

    def test_at_most_20000_signs(self):
        self.assertEqual(program("send" + " " * 19996), (("do", "send", 1),))
        self.everywhere("send" + " " * 19997, 20000)
        self.everywhere("~" * 30000, 20000)
        self.everywhere(" " * 20000 + chr(37), 20000)
        self.everywhere(" " * 19999 + chr(37) * 9, 19999)

    def test_grounds_come_ahead_of_texts(self):
        for call in (read_program, read_law, read_entry):
            self.assertEqual(refusal(call, ((), (), ()), None), ("BadGround", (2, -1)))
            self.assertEqual(refusal(call, None, chr(37)), ("BadGround", -1))


class Words(unittest.TestCase):
    def refused(self, text, word, place):
        self.assertEqual(refusal(read_program, GROUND, text), (word, place))

    def test_blanks_mean_nothing_but_that_they_part_words(self):
        expected = (("if", ("eq", ("cell", "a"), ("num", 1)), (("do", "send", 2), ("set", "bc", ("num", 7))), (("exit", "full"),)),)
        for text in ("if a = 1 { send 2; bc := 7 } else { exit full }", "if a=1{send 2;bc:=7}else{exit full}",
                     "   if   a  =  1  {  send  2  ;  bc  :=  7  }  else  {  exit  full  }   "):
            self.assertEqual(program(text), expected)
        self.assertEqual(program("send 2"), (("do", "send", 2),))
        self.refused("send2", "NoName", 0)
        self.refused("se nd", "NoName", 0)
        self.refused("exitfull", "NoName", 0)
        self.refused("if a = 1 0 {}", "BadText", 9)
        self.assertEqual(program("if a=1 and not[a=0]or a<1{}"), program("if a = 1 and not [ a = 0 ] or a < 1 { }"))

    def test_becomes_beside_its_two_signs(self):
        self.assertEqual(program("a:=1"), (("set", "a", ("num", 1)),))
        self.refused("a : = 1", "BadText", 2)
        self.refused("a : := 1", "BadText", 2)
        self.refused("a ::= 1", "BadText", 2)
        self.refused("a = 1", "BadText", 2)
        self.refused("a :== 1", "BadText", 4)
        self.refused("if a := 1 {}", "BadText", 5)
        self.refused("if a =:= 1 {}", "BadText", 6)
        self.refused("a :=", "BadText", 4)
        self.refused("a :", "BadText", 2)
        self.assertEqual(refusal(read_entry, GROUND, "law w := ~"), ("BadText", 6))
        self.assertEqual(refusal(read_entry, GROUND, "law w :: ~"), ("BadText", 7))
        self.assertEqual(read_entry(GROUND, "law w:~"), ("w", ((), ())))

    def test_figure_words(self):
        for figures in ("0", "7", "99"):
            self.assertEqual(program("a := " + figures), (("set", "a", ("num", int(figures))),))
        for figures in ("100", "999", "1000", "99999", "100000", "999999"):
            self.refused("a := " + figures, "BadNumber", 5)
        for figures in ("1000000", "0000000", "00", "01", "000", "000001", "9" * 1000):
            self.refused("a := " + figures, "BadText", 5)
        for figures in ("0", "10", "11", "999999"):
            self.refused("send " + figures, "BadNumber", 5)
        for figures in ["01", "1000000", "9" * 7 + "a"] + ["1" + letter for letter in "abcdefghijklmnopqrstuvwxyz"]:
            self.refused("send " + figures, "BadText", 5)

    def test_names(self):
        self.assertEqual(program("abcdefghijkl"), (("do", "abcdefghijkl", 1),))
        self.refused("abcdefghijkm", "NoName", 0)
        self.refused("a23456789012", "NoName", 0)
        self.refused("abcdefghijklm", "BadText", 0)
        self.refused("a234567890123", "BadText", 0)
        self.refused("1a", "BadText", 0)
        self.refused("A", "BadText", 0)
        self.refused("send_2", "BadText", 4)
        self.refused("exit abcdefghijklm", "BadText", 5)

    def test_reserved_words_in_the_place_of_names(self):
        for word in "cells deeds exits if else while catch exit and or not law".split():
            self.refused("exit " + word, "BadText", 5)
            self.refused("a := " + word, "BadText", 5)
            self.refused("catch {} " + word + " {}", "BadText", 9)
            self.assertEqual(refusal(read_ground, "cells " + word + " 2; deeds; exits done"), ("BadText", 6))
            self.assertEqual(refusal(read_ground, "cells; deeds; exits " + word), ("BadText", 20))
            self.assertEqual(refusal(read_entry, GROUND, "law " + word + ": ~"), ("BadText", 4))
            self.assertEqual(Desk(GROUND).row("drop " + word), "refused: BadText 5")
            self.assertEqual(Desk(GROUND).row(word + " undo"), "refused: BadText 0")
            if word not in ("if", "while", "exit", "catch"):
                self.refused(word, "BadText", 0)
                self.refused("send; " + word, "BadText", 6)

    def test_signs_that_can_stand_nowhere(self):
        for sign in "!\"#$&'./>?@ABZ\\^_`|":
            for text in ("send 2; a := a + 1", "while not [a < 1] { exit full }", "catch { send } full {} done {}"):
                for at in range(len(text) + 1):
                    beside = text[max(0, at - 1):at + 1]
                    if beside != ":=" and not beside.isalnum():
                        self.refused(text[:at] + sign + text[at:], "BadText", at)
            self.refused("se" + sign + "nd", "NoName", 0)
            self.refused("send" + sign + "2", "BadText", 4)


class FirstWrongWord(unittest.TestCase):
    def refused(self, text, word, place):
        self.assertEqual(refusal(read_program, GROUND, text), (word, place))

    def test_a_text_is_refused_for_its_first_wrong_word(self):
        self.refused("pay; send 10", "NoName", 0)
        self.refused("send 10; pay", "BadNumber", 5)
        self.refused("send 10 10", "BadNumber", 5)
        self.refused("exit done; ;", "NoName", 5)
        self.refused("a := b + 100", "NoName", 5)
        self.refused("a := 100 + b", "BadNumber", 5)
        self.refused("send ; ; pay", "BadText", 7)
        self.refused("send 1 ] pay", "BadText", 7)

    def test_whether_a_word_can_stand_is_asked_first(self):
        self.refused("pay := 100", "NoName", 0)
        self.refused("exit 10", "BadText", 5)
        self.refused("full := 1", "NoName", 0)

    def test_each_word_that_can_be_lacking_at_the_end(self):
        for text in ("if a = 0 { send } else { exit full }", "while not [ a < 1 or a = ( a * 2 ) - 1 ] { a := 3 }",
                     "catch { send 2 } full { exit full } done { }"):
            words = text.split()
            self.assertEqual(len(program(text)), 1)
            for many in range(1, len(words)):
                cut = " ".join(words[:many])
                if refusal(read_program, GROUND, cut) is not None:
                    self.refused(cut, "BadText", len(cut))
                    self.refused(cut + "   ", "BadText", len(cut) + 3)
                else:
                    self.assertIn(words[many - 1], ("}",))
        for text in ("send;", "a", "a :=", "a := a +", "a := (", "a := (a", "if", "while a", "while a =", "while a = 0 and",
                     "exit", "catch", "catch {", "catch {} full", "catch {} full {", "if a = 0 {} else", "while not"):
            self.refused(text, "BadText", len(text))
        for text in ("cells", "cells a", "cells a 2", "cells a 2,", "cells;", "cells; deeds", "cells; deeds k", "cells; deeds k 1",
                     "cells; deeds;", "cells; deeds; exits", "cells; deeds; exits done,", ""):
            self.assertEqual(refusal(read_ground, text), ("BadText", len(text)))
        for text in ("", "send", "send 2; send 2"):
            self.assertEqual(refusal(read_law, GROUND, text), ("BadText", len(text)))
        for text in ("", "law", "law w", "law w:", "law w: send"):
            self.assertEqual(refusal(read_entry, GROUND, text), ("BadText", len(text)))


if __name__ == "__main__":
    unittest.main()
