"""Points [63] and [66]: programs told as texts, there and back."""

import itertools
import random
import re
import unittest

from lawsleft.printprograms import print_program
from lawsleft.readprograms import read_program
from tests.samples import BARE, JUNK, SENDING, WIDE, Chance, refusal
from tests.second_reader import second_program, spaced, words_of

GROUND = ((("a", 2), ("b", 3)), (("send", 5), ("log", 1)), ("done", "full", "lost"))
A, B = ("cell", "a"), ("cell", "b")
ZERO, ONE, TWO = ("num", 0), ("num", 1), ("num", 2)
S, T = ("eq", A, ZERO), ("less", A, ONE)
SEND = ("do", "send", 1)
FULL = ("exit", "full")


def number(told):
    """Return the text of a number."""
    text = print_program(GROUND, (("set", "a", told),))
    return text[len("a := "):]


def test_of(told):
    """Return the text of a test."""
    text = print_program(GROUND, (("while", told, ()),))
    return text[len("while "):-len(" {}")]


class Statements(unittest.TestCase):
    def told(self, text, *program):
        self.assertEqual(print_program(GROUND, program), text)
        self.assertEqual(read_program(GROUND, text), program)

    def test_plain_ones(self):
        self.told("")
        self.told("send", SEND)
        for times in range(2, 10):
            self.told("send " + str(times), ("do", "send", times))
        self.told("exit full", FULL)
        self.told("a := 99", ("set", "a", ("num", 99)))
        self.told("send; a := a + 1; exit lost", SEND, ("set", "a", ("add", A, ONE)), ("exit", "lost"))
        self.assertEqual(print_program(ground=GROUND, program=(SEND, SEND)), "send; send")

    def test_ifs(self):
        self.told("if a = 0 {}", ("if", S, (), ()))
        self.told("if a = 0 { send }", ("if", S, (SEND,), ()))
        self.told("if a = 0 {} else { send }", ("if", S, (), (SEND,)))
        self.told("if a = 0 { exit full } else { send; send 2 }", ("if", S, (FULL,), (SEND, ("do", "send", 2))))
        self.told("if a = 0 { if a < 1 {} } else { if a < 1 {} else { send } }",
                  ("if", S, (("if", T, (), ()),), (("if", T, (), (SEND,)),)))

    def test_whiles(self):
        self.told("while a = 0 {}", ("while", S, ()))
        self.told("while a = 0 { while a < 1 { send } }; send", ("while", S, (("while", T, (SEND,)),)), SEND)

    def test_catches(self):
        self.told("catch {}", ("catch", (), ()))
        self.told("catch { send }", ("catch", (SEND,), ()))
        self.told("catch {} full {} done {}", ("catch", (), (("full", ()), ("done", ()))))
        self.told("catch { send; exit full } full { log 3 } done {}",
                  ("catch", (SEND, FULL), (("full", (("do", "log", 3),)), ("done", ()))))
        self.told("catch { catch {} lost {} } full { catch {} }",
                  ("catch", (("catch", (), (("lost", ()),)),), (("full", (("catch", (), ()),)),)))

    def test_the_least_grounds(self):
        self.assertEqual(print_program(BARE, ()), "")
        self.assertEqual(print_program(BARE, (("while", ("eq", ZERO, ONE), ()), ("catch", (), (("done", ()),)))),
                         "while 0 = 1 {}; catch {} done {}")

    def test_as_deep_as_can_be(self):
        program = ()
        for _ in range(11):
            program = (("if", S, program, program[:0]),)
        self.told("if a = 0 { " * 10 + "if a = 0 {}" + " }" * 10, *program)


class Brackets(unittest.TestCase):
    def test_the_examples(self):
        self.assertEqual(number(("sub", A, ("add", ONE, ("mul", TWO, A)))), "a - (1 + 2 * a)")
        self.assertEqual(test_of(("and", ("or", S, T), ("not", ("and", T, S)))), "[a = 0 or a < 1] and not [a < 1 and a = 0]")

    def test_sums_and_products(self):
        signs = {"add": "+", "sub": "-", "mul": "*"}
        for outer, inner in itertools.product(signs, repeat=2):
            left = number((outer, (inner, A, B), ONE))
            right = number((outer, A, (inner, B, ONE)))
            told = "a " + signs[inner] + " b"
            self.assertEqual(left, ("(" + told + ")" if outer == "mul" and inner != "mul" else told) + " " + signs[outer] + " 1")
            told = "b " + signs[inner] + " 1"
            self.assertEqual(right, "a " + signs[outer] + " " + (told if inner == "mul" != outer else "(" + told + ")"))

    def test_three_deep(self):
        self.assertEqual(number(("mul", ("add", A, ("sub", B, ONE)), ("mul", TWO, ("sub", A, B)))), "(a + (b - 1)) * (2 * (a - b))")
        self.assertEqual(number(("add", ("mul", ("mul", A, B), ONE), ("mul", A, ("mul", B, ONE)))), "a * b * 1 + a * (b * 1)")
        self.assertEqual(number(("sub", ("sub", A, B), ("sub", A, B))), "a - b - (a - b)")

    def test_tests(self):
        for outer, inner in itertools.product(("and", "or"), repeat=2):
            left = test_of((outer, (inner, S, T), S))
            right = test_of((outer, S, (inner, T, S)))
            told = "a = 0 " + inner + " a < 1"
            self.assertEqual(left, ("[" + told + "]" if (outer, inner) == ("and", "or") else told) + " " + outer + " a = 0")
            told = "a < 1 " + inner + " a = 0"
            self.assertEqual(right, "a = 0 " + outer + " " + (told if (outer, inner) == ("or", "and") else "[" + told + "]"))

    def test_behind_not(self):
        self.assertEqual(test_of(("not", S)), "not a = 0")
        self.assertEqual(test_of(("not", ("not", ("not", T)))), "not not not a < 1")
        self.assertEqual(test_of(("not", ("and", S, T))), "not [a = 0 and a < 1]")
        self.assertEqual(test_of(("not", ("or", S, T))), "not [a = 0 or a < 1]")
        self.assertEqual(test_of(("and", ("not", S), ("not", T))), "not a = 0 and not a < 1")
        self.assertEqual(test_of(("or", ("not", ("not", S)), S)), "not not a = 0 or a = 0")

    def test_numbers_of_comparisons_stand_without(self):
        six = ("sub", A, ("add", B, ONE))
        self.assertEqual(test_of(("eq", six, six)), "a - (b + 1) = a - (b + 1)")
        self.assertEqual(test_of(("and", S, ("less", ("add", A, B), ("mul", A, B)))), "a = 0 and a + b < a * b")

    def test_none_can_be_left_out(self):
        many = 0
        for seed in range(400):
            chance = Chance(GROUND, seed)
            program = (("set", "a", chance.number(5)), ("while", chance.test(5), ()))
            text = print_program(GROUND, program)
            for found in re.finditer(r"[(\[]", text):
                close = self.closing(text, found.start())
                other = text[:found.start()] + text[found.start() + 1:close] + text[close + 1:]
                self.assertNotEqual(second_program(GROUND, other), program, text)
                many += 1
        self.assertGreater(many, 500)

    def closing(self, text, start):
        open_ones = 0
        for index in range(start, len(text)):
            open_ones += (text[index] in "([") - (text[index] in ")]")
            if open_ones == 0:
                return index
        raise AssertionError(text)


class ThereAndBack(unittest.TestCase):
    def test_what_is_told_is_read_as_it_was(self):
        for seed in range(500):
            ground = (WIDE, SENDING, GROUND)[seed % 3]
            program = Chance(ground, seed).body(4)
            text = print_program(ground, program)
            self.assertEqual(text, spaced([word for word, _ in words_of(text)]))
            if len(text) <= 20000:
                self.assertEqual(read_program(ground, text), program)
                self.assertEqual(second_program(ground, text), program)

    def test_what_is_read_told_and_read_again_is_the_same(self):
        chance = random.Random(2)
        for seed in range(300):
            program = Chance(WIDE, seed).body(3)
            words = [word for word, _ in words_of(print_program(WIDE, program))]
            text = "".join(word + " " * chance.choice((1, 1, 2, 5)) for word in words)
            self.assertEqual(read_program(WIDE, text), program)
            more = self.with_brackets(chance, words)
            found = read_program(WIDE, more)
            self.assertEqual(found, program)
            self.assertEqual(print_program(WIDE, found), print_program(WIDE, program))

    def with_brackets(self, chance, words):
        """Return a text with brackets about atoms and with the elses that print_program leaves out."""
        told = []
        for index, word in enumerate(words):
            ahead = words[index - 1] if index else ""
            atom = word.isdigit() and ahead in (":=", "=", "<", "+", "-", "*", "(") and chance.random() < 0.5
            told.append("((" + word + "))" if atom else word)
        return " ".join(told)

    def test_a_text_of_20000_signs_and_one_more(self):
        told = ("add", ("add", ("mul", A, B), ("mul", A, B)), ("add", ("mul", A, B), ("mul", A, B)))
        eight = ("and", ("eq", told, told), ("eq", told, told))
        program = (("while", ("or", eight, ("or", eight, eight)), ()),) * 40
        text = print_program(GROUND, program)
        self.assertLess(len(text), 20000)
        self.assertEqual(read_program(GROUND, text + " " * (20000 - len(text))), program)
        self.assertEqual(refusal(read_program, GROUND, text + " " * (20001 - len(text))), ("BadText", 20000))
        longer = print_program(GROUND, (("while", ("or", ("or", eight, eight), ("or", eight, ("and", eight, eight))), ()),) * 40)
        self.assertGreater(len(longer), 20000)
        self.assertEqual(refusal(read_program, GROUND, longer), ("BadText", 20000))

    def test_equal_programs_have_one_text(self):
        program = Chance(WIDE, 8).body(4)
        self.assertEqual(print_program(WIDE, program), print_program(eval(repr(WIDE)), eval(repr(program))))


class Wrong(unittest.TestCase):
    def test_grounds_then_programs(self):
        self.assertEqual(refusal(print_program, ((), (), ()), None), ("BadGround", (2, -1)))
        self.assertEqual(refusal(print_program, GROUND, (SEND, ("do", "send", 0))), ("BadProgram", (1,)))
        self.assertEqual(refusal(print_program, GROUND, (("while", S, (("exit", "done"),)),)), ("BadProgram", (0, 0, 0)))
        self.assertEqual(refusal(print_program, GROUND, (("catch", (SEND,) * 40, ()),) * 3), ("TooMany", 121))
        for thing in JUNK:
            self.assertEqual(refusal(print_program, thing, None)[0], "BadGround")
            self.assertEqual(refusal(print_program, GROUND, thing)[0], "BadProgram")


if __name__ == "__main__":
    unittest.main()
