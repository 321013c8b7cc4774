"""Point [72]: codes told as texts."""

import unittest

from lawsleft.codes import code, is_code, plain_code
from lawsleft.codetexts import print_code
from lawsleft.printprograms import print_program
from lawsleft.readprograms import read_program
from tests.samples import BARE, JUNK, SENDING, WIDE, Chance, bent, book_of, refusal

EXAMPLE = (("switch", "c", (1, 4)), ("deed", "send", 2), ("set", "c", ("num", 1)), ("exit", "done"),
           ("deed", "send", 1), ("exit", "done"))
TOLD = "switch c 1 4 / deed send 2 / set c := 1 / exit done / deed send 1 / exit done"
C = ("cell", "c")
DONE = ("exit", "done")


def second_rows(ground, text):
    """Read a code from its text: E and T by the reading of programs."""
    rows = []
    for row in text.split(" / "):
        word, rest = row.split(" ", 1)
        if word == "set":
            rows.append(("set",) + read_program(ground, rest)[0][1:])
        elif word == "deed":
            rows.append(("deed", rest.split()[0], int(rest.split()[1])))
        elif word == "branch":
            test, number = rest.rsplit(" ", 1)
            rows.append(("branch", read_program(ground, "while " + test + " {}")[0][1], int(number)))
        elif word == "switch":
            rows.append(("switch", rest.split()[0], tuple(int(number) for number in rest.split()[1:])))
        else:
            rows.append((word, int(rest) if word == "jump" else rest))
    return tuple(rows)


class Told(unittest.TestCase):
    def test_the_example(self):
        self.assertEqual(print_code(ground=SENDING, code=EXAMPLE), TOLD)

    def test_each_row(self):
        for row, text in (
            (("set", "c", ("sub", C, ("add", C, ("num", 1)))), "set c := c - (c + 1)"),
            (("deed", "send", 1), "deed send 1"), (("deed", "send", 10 ** 30), "deed send 1" + "0" * 30),
            (("branch", ("not", ("and", ("eq", C, ("num", 0)), ("less", C, C))), 0), "branch not [c = 0 and c < c] 0"),
            (("branch", ("less", ("num", 3), C), 1), "branch 3 < c 1"), (("switch", "c", (1, 0)), "switch c 1 0"),
            (("switch", "c", (1, 1)), "switch c 1 1"), (("jump", 1), "jump 1"), (("exit", "full"), "exit full"), (DONE, "exit done"),
        ):
            self.assertEqual(print_code(SENDING, (row, DONE)), text + " / exit done")

    def test_codes_of_one_row(self):
        self.assertEqual(print_code(SENDING, (DONE,)), "exit done")
        self.assertEqual(print_code(BARE, (("jump", 0),)), "jump 0")
        self.assertEqual(print_code(((("a", 1),), (), ("x",)), (("switch", "a", (0,)),)), "switch a 0")

    def test_numbers_and_tests_stand_as_in_programs(self):
        for seed in range(200):
            chance = Chance(WIDE, seed)
            number, test = chance.number(5), chance.test(5)
            told = print_code(WIDE, (("set", "a", number), ("branch", test, 0), ("exit", "lost")))
            program = print_program(WIDE, (("set", "a", number), ("while", test, ())))
            self.assertEqual(program, told.replace("set ", "", 1).replace(" / branch ", "; while ").rsplit(" 0 / ", 1)[0] + " {}")

    def test_codes_of_programs(self):
        for seed in range(100):
            ground = (WIDE, SENDING)[seed % 2]
            chance = Chance(ground, seed)
            program = chance.body(4)
            for rows in (plain_code(ground, program), code(book_of(ground, chance.facts(2, 3, 0.1)), program)):
                self.assertEqual(second_rows(ground, print_code(ground, rows)), rows)


class Wrong(unittest.TestCase):
    def test_grounds_then_codes(self):
        self.assertEqual(refusal(print_code, ((), (), ()), None), ("BadGround", (2, -1)))
        for thing in JUNK:
            self.assertEqual(refusal(print_code, thing, None)[0], "BadGround")
            self.assertEqual(refusal(print_code, SENDING, thing), ("BadCode", -1))
        for thing in ((), (("deed", "send", 1),), (("jump", 1),), (("exit", "lost"),), (DONE,) * 2001, (("deed", "send", 0), DONE)):
            self.assertEqual(refusal(print_code, SENDING, thing), ("BadCode", -1))

    def test_bent_codes(self):
        for other in bent(EXAMPLE):
            told = refusal(print_code, SENDING, other)
            self.assertEqual(told, None if is_code(SENDING, other) else ("BadCode", -1))
            if told is None:
                self.assertNotEqual(print_code(SENDING, other), TOLD)


if __name__ == "__main__":
    unittest.main()
