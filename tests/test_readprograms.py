"""Points [57] to [62]: numbers, tests, statements and programs, read from texts."""

import random
import unittest

from lawsleft.printprograms import print_program
from lawsleft.programs import is_program
from lawsleft.readprograms import read_program
from tests.samples import JUNK, SENDING, WIDE, Chance, refusal
from tests.second_reader import bent_text, second_program

GROUND = ((("a", 2),), (("send", 5), ("log", 1)), ("done", "full"))
FOUR = ((("a", 2), ("b", 8)), (("k", 1),), ("done", "full", "lost", "gone"))
A, B = ("cell", "a"), ("cell", "b")
ZERO, ONE, TWO = ("num", 0), ("num", 1), ("num", 2)
A_IS_0 = ("eq", A, ZERO)
SEND = ("do", "send", 1)


class Asking(unittest.TestCase):
    def told(self, text, *statements, ground=FOUR):
        self.assertEqual(read_program(ground, text), statements)

    def refused(self, text, word, place, ground=FOUR):
        self.assertEqual(refusal(read_program, ground, text), (word, place))
        self.assertEqual(second_program(ground, text), (word, place))

    def number(self, text, expected):
        self.told("b := " + text, ("set", "b", expected))

    def condition_told(self, text, expected):
        self.told("while " + text + " {}", ("while", expected, ()))


class Examples(Asking):
    def test_of_programs(self):
        self.told("send 2; a := a + 1", ("do", "send", 2), ("set", "a", ("add", A, ONE)), ground=GROUND)
        self.told("", ground=GROUND)
        self.told("if a = 0 { exit full }", ("if", A_IS_0, (("exit", "full"),), ()), ground=GROUND)
        self.assertEqual(read_program(ground=GROUND, text="send"), (SEND,))

    def test_of_errors(self):
        self.refused("send 10", "BadNumber", 5, GROUND)
        self.refused("exit done", "NoName", 5, GROUND)
        self.refused("send; b", "NoName", 6, GROUND)
        self.refused("send;", "BadText", 5, GROUND)
        self.refused("catch {} full {} full {}", "Twice", 17, GROUND)
        self.refused("while not not not not not not a = 0 {}", "TooDeep", 6, GROUND)


class Numbers(Asking):
    def test_sums_from_the_left(self):
        self.number("a - b + 1", ("add", ("sub", A, B), ONE))
        self.number("a + b - 1 - 2", ("sub", ("sub", ("add", A, B), ONE), TWO))
        self.number("a - (b + 1)", ("sub", A, ("add", B, ONE)))
        self.number("(a - b) + 1", ("add", ("sub", A, B), ONE))

    def test_products_go_ahead_of_sums(self):
        self.number("a + b * 2", ("add", A, ("mul", B, TWO)))
        self.number("a * b + 2", ("add", ("mul", A, B), TWO))
        self.number("a * b * 2", ("mul", ("mul", A, B), TWO))
        self.number("a * (b * 2)", ("mul", A, ("mul", B, TWO)))
        self.number("(a + b) * 2 - 1", ("sub", ("mul", ("add", A, B), TWO), ONE))
        self.number("1 - 2 * (a - b * 0) * b", ("sub", ONE, ("mul", ("mul", TWO, ("sub", A, ("mul", B, ZERO))), B)))

    def test_atoms(self):
        self.number("0", ZERO)
        self.number("99", ("num", 99))
        self.number("a", A)
        self.number("((a))", A)
        for figures in ("100", "123456", "999999"):
            self.refused("b := " + figures, "BadNumber", 5)
            self.refused("while a = a + " + figures + " {}", "BadNumber", 14)
        for name in ("k", "done", "full", "c", "aa", "num"):
            self.refused("b := " + name, "NoName", 5)
            self.refused("b := a + " + name, "NoName", 9)
            self.refused("if " + name + " = 0 {}", "NoName", 3)

    def test_words_that_cannot_stand(self):
        for text, place in (("b := ", 5), ("b := -1", 5), ("b := + a", 5), ("b := a +", 8), ("b := a + + a", 9), ("b := a a", 7),
                            ("b := a 1", 7), ("b := 1 a", 7), ("b := (a", 7), ("b := a)", 6), ("b := ()", 6), ("b := (a + )", 10),
                            ("b := (a]", 7), ("b := [a]", 5), ("b := a = 1", 7), ("b := a < 1", 7), ("b := not a", 5),
                            ("b := a and a", 7), ("b := (a = 1)", 8), ("b := a * * a", 9), ("b := a ** a", 8), ("b := a,", 6)):
            self.refused(text, "BadText", place)


class Tests(Asking):
    def test_comparisons(self):
        self.condition_told("a = 0", A_IS_0)
        self.condition_told("a < b", ("less", A, B))
        self.condition_told("a + 1 = b * 2", ("eq", ("add", A, ONE), ("mul", B, TWO)))
        self.condition_told("(a) < (b + 1)", ("less", A, ("add", B, ONE)))

    def test_which_goes_ahead(self):
        p, q, r = ("eq", A, ZERO), ("less", A, ONE), ("eq", B, TWO)
        self.condition_told("a = 0 or a < 1 or b = 2", ("or", ("or", p, q), r))
        self.condition_told("a = 0 and a < 1 and b = 2", ("and", ("and", p, q), r))
        self.condition_told("a = 0 or a < 1 and b = 2", ("or", p, ("and", q, r)))
        self.condition_told("a = 0 and a < 1 or b = 2", ("or", ("and", p, q), r))
        self.condition_told("a = 0 and [a < 1 or b = 2]", ("and", p, ("or", q, r)))
        self.condition_told("a = 0 or [a < 1 or b = 2]", ("or", p, ("or", q, r)))
        self.condition_told("not a = 0 and a < 1", ("and", ("not", p), q))
        self.condition_told("not [a = 0 and a < 1]", ("not", ("and", p, q)))
        self.condition_told("not not a = 0 or not b = 2", ("or", ("not", ("not", p)), ("not", r)))
        self.condition_told("[[a = 0]]", p)

    def test_words_that_cannot_stand(self):
        for text, place in (("", 6), ("a", 7), ("a {}", 8), ("a = ", 10), ("a = {}", 10), ("a = 0 = 0 {}", 12), ("a = 0 < 0 {}", 12),
                            ("[a] = 0 {}", 8), ("(a = 0) {}", 9), ("[a = 0 {}", 13), ("a = 0] {}", 11), ("[a = 0) {}", 12),
                            ("a = 0 and {}", 16), ("a = 0 and or {}", 16), ("and a = 0 {}", 6), ("a not = 0 {}", 8),
                            ("a = not 0 {}", 10), ("a = 0 not a = 0 {}", 12), ("a + 1 {}", 12), ("a = [0] {}", 10), ("not {}", 10),
                            ("a = 0 or (a = 0) {}", 18), ("([a = 0]) {}", 7), ("a == 0 {}", 9), ("[] {}", 7), ("a < = 0 {}", 10)):
            self.refused("while " + text, "BadText", place)
            self.refused("if    " + text, "BadText", place)


class Deep(Asking):
    def test_numbers_6_and_7_deep(self):
        for sign, word in (("+", "add"), ("-", "sub"), ("*", "mul")):
            left, right = A, A
            for _ in range(5):
                left, right = (word, left, A), (word, A, right)
            self.number((" " + sign + " ").join("a" * 6), left)
            self.number(("a " + sign + " (") * 5 + "a" + ")" * 5, right)
            self.refused("b := " + (" " + sign + " ").join("a" * 7), "TooDeep", 5 + 4 * 5 + 2)
            self.refused("b := " + (" " + sign + " ").join("a" * 9), "TooDeep", 5 + 4 * 5 + 2)
            self.refused("b := " + ("a " + sign + " (") * 6 + "a" + ")" * 6, "TooDeep", 7)
            self.refused("b := " + ("a " + sign + " (") * 7 + "a" + ")" * 7, "TooDeep", 12)

    def test_the_sign_by_which_a_number_is_too_deep(self):
        six = "(a + a + a + a + a + a)"
        self.refused("b := " + six + " * 2", "TooDeep", 29)
        self.refused("b := 2 * " + six, "TooDeep", 7)
        self.refused("b := 1 + 2 * " + six, "TooDeep", 11)
        self.refused("b := " + six + " * 2 - 1", "TooDeep", 29)
        self.refused("b := 1 + a * a * a * a * a * a", "TooDeep", 7)
        self.refused("b := a * a * a * a * a * a * a + 1", "TooDeep", 27)

    def test_it_is_asked_when_what_belongs_to_the_word_is_read(self):
        six = "a + a + a + a + a + a"
        self.refused("b := " + six + " + 100", "BadNumber", 29)
        self.refused("b := " + six + " + pay", "NoName", 29)
        self.refused("b := " + six + " + ;", "BadText", 29)
        self.refused("b := " + six + " + a * 100", "BadNumber", 33)
        self.refused("b := " + six + " + a pay", "TooDeep", 27)
        self.refused("b := " + six + " + a 007", "TooDeep", 27)
        self.refused("b := " + six + " + a", "TooDeep", 27)
        self.refused("b := " + six + " + (a", "BadText", 31)
        self.refused("while not not not not not not a = pay {}", "NoName", 34)
        self.refused("while not not not not not not a = 0", "TooDeep", 6)
        self.refused("while not not not not not not a = 0 * 100 {}", "BadNumber", 38)
        self.refused("while not not not not not not a = 0 and b {}", "TooDeep", 6)
        self.refused("while not not not not not not [a = 0 {}", "BadText", 37)

    def test_tests_6_and_7_deep(self):
        five = A_IS_0
        for _ in range(5):
            five = ("not", five)
        self.condition_told("not " * 5 + "a = 0", five)
        self.refused("while " + "not " * 6 + "a = 0 {}", "TooDeep", 6)
        self.refused("while " + "not " * 7 + "a = 0 {}", "TooDeep", 10)
        self.refused("while " + "not " * 4998 + "{", "BadText", 19998)
        self.refused("while " + "not " * 4000 + "a = 0 {}", "TooDeep", 6 + 4 * (4000 - 6))
        for word in ("and", "or"):
            left, right = A_IS_0, A_IS_0
            for _ in range(5):
                left, right = (word, left, A_IS_0), (word, A_IS_0, right)
            self.condition_told((" " + word + " ").join(["a = 0"] * 6), left)
            self.condition_told(("a = 0 " + word + " [") * 5 + "a = 0" + "]" * 5, right)
            step = 5 + 2 + len(word)
            self.refused("while " + (" " + word + " ").join(["a = 0"] * 7) + " {}", "TooDeep", 6 + 5 * step + 6)
            self.refused("while " + ("a = 0 " + word + " [") * 6 + "a = 0" + "]" * 6 + " {}", "TooDeep", 12)
        self.refused("while a = 0 or " + " and ".join(["a = 0"] * 6) + " {}", "TooDeep", 12)

    def test_tests_and_numbers_are_counted_by_themselves(self):
        six = "a + a + a + a + a + a"
        self.assertIs(is_program(FOUR, read_program(FOUR, "while " + "not " * 5 + six + " = " + six + " {}")), True)
        self.assertIs(is_program(FOUR, read_program(FOUR, "while not [" + "not " * 4 + six + " < a] {}")), True)
        self.refused("while " + six + " + a = 0 {}", "TooDeep", 28)

    def test_brackets_make_nothing_deeper(self):
        self.number("(" * 12 + "a" + ")" * 12, A)
        self.condition_told("[" * 12 + "a = 0" + "]" * 12, A_IS_0)
        self.condition_told("[" * 6 + "(" * 6 + "a" + ")" * 6 + " = " + "(" * 6 + "0" + ")" * 6 + "]" * 6, A_IS_0)
        self.number("(" * 12 + "a" + ")" * 12 + " + " + "(" * 12 + "a" + ")" * 12, ("add", A, A))

    def test_the_13th_open_bracket(self):
        self.refused("b := " + "(" * 13 + "a" + ")" * 13, "TooDeep", 17)
        self.refused("b := " + "(" * 13, "TooDeep", 17)
        self.refused("b := " + "(" * 9000, "TooDeep", 17)
        self.refused("b := " + "(" * 12 + ")", "BadText", 17)
        self.refused("while " + "[" * 13 + "a = 0" + "]" * 13 + " {}", "TooDeep", 18)
        self.refused("while " + "[" * 12 + "(a) = 0" + "]" * 12 + " {}", "TooDeep", 18)
        self.refused("while " + "[" * 12 + "a = (0)" + "]" * 12 + " {}", "TooDeep", 22)
        self.refused("while " + "[" * 6 + "(" * 6 + "a" + ")" * 6 + " = " + "(" * 7 + "0" + ")" * 7 + "]" * 6 + " {}", "TooDeep", 34)
        self.refused("while " + "[" * 12 + "[", "TooDeep", 18)


class Statements(Asking):
    def test_each_of_them(self):
        self.told("a := 1", ("set", "a", ONE))
        self.told("k", ("do", "k", 1))
        for times in range(1, 10):
            self.told("k " + str(times), ("do", "k", times))
        self.told("exit gone", ("exit", "gone"))
        self.told("if a = 0 {}", ("if", A_IS_0, (), ()))
        self.told("if a = 0 {} else {}", ("if", A_IS_0, (), ()))
        self.told("if a = 0 { k } else { exit full }", ("if", A_IS_0, (("do", "k", 1),), (("exit", "full"),)))
        self.told("if a = 0 {} else { k 2; k 3 }", ("if", A_IS_0, (), (("do", "k", 2), ("do", "k", 3))))
        self.told("while a = 0 { while a = 0 {} }", ("while", A_IS_0, (("while", A_IS_0, ()),)))
        self.told("catch {}", ("catch", (), ()))
        self.told("catch { k } lost {} done { exit full }", ("catch", (("do", "k", 1),), (("lost", ()), ("done", (("exit", "full"),)))))
        self.told("k; catch {}; k", ("do", "k", 1), ("catch", (), ()), ("do", "k", 1))
        self.told("catch { catch {} full {} } full {}", ("catch", (("catch", (), (("full", ()),)),), (("full", ()),)))
        self.told("catch { exit full } full { if a = 0 {} else {} } lost {}",
                  ("catch", (("exit", "full"),), (("full", (("if", A_IS_0, (), ()),)), ("lost", ()))))

    def test_first_words_of_statements(self):
        self.refused("pay", "NoName", 0)
        self.refused("full", "NoName", 0)
        self.refused("k; done", "NoName", 3)
        self.refused("while a = 0 { pay }", "NoName", 14)
        for word in ("else", "and", "or", "not", "law", "cells", "deeds", "exits", "5", ":=", "=", "(", "[", "{", "}", "~", ",", ":", "*"):
            self.refused(word, "BadText", 0)
            self.refused("k; " + word + " ", "BadText", 3)
            self.refused("while a = 0 { k; " + word, "BadText", 17)
            if word != "}":
                self.refused("while a = 0 { " + word, "BadText", 14)

    def test_words_that_cannot_stand(self):
        for text, place in (("; k", 0), ("k ;; k", 3), ("k k", 2), ("k 1 1", 4), ("k := 1", 2), ("a", 1), ("a 1", 2), ("a; k", 1),
                            ("exit", 4), ("exit 1", 5), ("exit; k", 4), ("exit full lost", 10), ("if a = 0 k", 9), ("if a = 0 {} {}", 12),
                            ("if a = 0 {} else k", 17), ("if a = 0 {} else {} else {}", 20), ("else {}", 0), ("while a = 0 {} else {}", 15),
                            ("while a = 0", 11), ("while a = 0 { k", 15), ("while a = 0 { k; }", 17), ("while a = 0 {}}", 14), ("}", 0),
                            ("k }", 2), ("catch k", 6), ("catch {} full", 13), ("catch {} full; k", 13), ("catch {} {}", 9),
                            ("catch {} exit full", 9), ("catch {} k 1", 11), ("{ k }", 0), ("k ~ k", 2), ("k, k", 1), ("if {}", 3)):
            if text != "catch {} k 1":
                self.refused(text, "BadText", place)
        self.refused("catch {} k 1", "NoName", 9)
        self.refused("catch {} full {} k", "NoName", 17)

    def test_figure_words_of_deeds(self):
        for figures in ("0", "10", "99", "999999"):
            self.refused("k " + figures, "BadNumber", 2)
        for figures in ("00", "01", "1000000", "1k"):
            self.refused("k " + figures, "BadText", 2)

    def test_names_of_exits(self):
        for name in ("done", "a", "k", "pay"):
            self.refused("exit " + name, "NoName", 5)
        self.refused("exit done done", "NoName", 5)


class Catches(Asking):
    def test_4_and_5_pairs(self):
        text = "catch {} done {} full {} lost {} gone {}"
        self.told(text, ("catch", (), tuple((name, ()) for name in ("done", "full", "lost", "gone"))))
        for name in ("full", "pay", "k", "a"):
            self.refused(text + " " + name + " {}", "TooMany", 41)
        self.refused(text + " law {}", "BadText", 41)
        self.told(text.replace("{}", "{ " + text + " }", 1),
                  ("catch", read_program(FOUR, text), tuple((name, ()) for name in ("done", "full", "lost", "gone"))))

    def test_names_of_pairs(self):
        for name in ("a", "k", "pay"):
            self.refused("catch {} " + name + " {}", "NoName", 9)
            self.refused("catch {} full {} " + name, "NoName", 17)
        self.refused("catch {} full {} full", "Twice", 17)
        self.refused("catch {} full {} lost {} full {}", "Twice", 25)
        self.refused("catch {} full { pay } full {}", "NoName", 16)
        self.told("catch { catch {} full {} } full {}; catch {} full {}",
                  ("catch", (("catch", (), (("full", ()),)),), (("full", ()),)), ("catch", (), (("full", ()),)))


class Many(Asking):
    def test_40_and_41_statements_in_a_body(self):
        self.told("; ".join(["k"] * 40), *[("do", "k", 1)] * 40)
        self.refused("; ".join(["k"] * 41), "TooMany", 120)
        self.refused("; ".join(["k"] * 40 + ["pay"]), "TooMany", 120)
        self.refused("; ".join(["k"] * 40 + ["5"]), "BadText", 120)
        self.refused("; ".join(["k"] * 40) + ";", "BadText", 119)
        self.told("while a = 0 { " + ";".join(["k"] * 40) + " }", ("while", A_IS_0, (("do", "k", 1),) * 40))
        self.refused("while a = 0 { " + ";".join(["k"] * 41) + " }", "TooMany", 14 + 80)
        self.refused(";".join(["k"] * 39 + ["if a=0{" + ";".join(["k"] * 40) + "}", "k", "k"]), "TooMany", 78 + 7 + 79 + 1 + 1)

    def test_120_and_121_statements_in_a_program(self):
        body = "catch{" + ";".join(["k"] * 40) + "}"
        two = "catch{" + ";".join(["k"] * 39) + "}"
        text = body + ";" + body + ";" + two.replace("k;", "", 2)
        self.assertEqual(len(read_program(FOUR, text)), 3)
        text = ";".join([body, body, "catch{" + ";".join(["k"] * 37) + "}"])
        self.assertEqual([len(told[1]) for told in read_program(FOUR, text)], [40, 40, 37])
        self.refused(text + ";k", "TooMany", len(text) + 1)
        self.refused(text + ";pay", "TooMany", len(text) + 1)
        self.refused(text + ";5", "BadText", len(text) + 1)
        self.refused(text + "full{pay", "TooMany", len(text) + 5)
        self.refused(text[:-1] + ";if a", "TooMany", len(text))
        self.refused(text[:-1] + ";", "BadText", len(text))

    def test_they_are_counted_in_the_order_of_the_text(self):
        text = ";".join(["catch{" + ";".join(["k"] * 39) + "}"] * 3)
        self.assertEqual(len(read_program(FOUR, text)), 3)
        self.refused("catch{" + text + "}", "TooMany", len("catch{" + text) - 2)
        self.refused(text + "; while a = 0 {}", "TooMany", len(text) + 2)

    def test_bodies_12_and_13_deep(self):
        expected = ()
        for _ in range(11):
            expected = (("catch", expected, ()),)
        self.told("catch {" * 11 + "}" * 11, *expected)
        self.refused("catch {" * 12 + "}" * 12, "TooDeep", 11 * 7 + 6)
        self.refused("catch {" * 12 + " pay", "TooDeep", 11 * 7 + 6)
        self.refused("catch {" * 11 + "catch (", "BadText", 11 * 7 + 6)
        for text, place in (("while a=0{}", 9), ("if a=0{}", 6), ("catch{}", 5)):
            self.refused("catch {" * 11 + text, "TooDeep", 77 + place)
        self.refused("catch {" * 11 + "} full {} full", "Twice", 77 + 10)
        self.refused("catch {} full {" * 11 + "if a=0", "BadText", 15 * 11 + 6)
        self.refused("catch {} full {" * 11 + "if a=0{", "TooDeep", 15 * 11 + 6)
        self.refused("if a=0 {} else {" * 11 + "if a=0{} else {", "TooDeep", 16 * 11 + 6)
        self.told("catch {" * 11 + "k" + "}" * 11 + "; k", ("catch", read_program(FOUR, "catch {" * 10 + "k" + "}" * 10), ()),
                  ("do", "k", 1))


class TwoWays(unittest.TestCase):
    def test_texts_bent_by_chance(self):
        told = {}
        chance = random.Random(3)
        for seed in range(500):
            ground = (WIDE, SENDING, FOUR)[seed % 3]
            program = Chance(ground, seed).body(3)
            text = print_program(ground, program)
            self.assertEqual(second_program(ground, text), program)
            for _ in range(8):
                self.judged(ground, bent_text(text, chance), told)
        self.assertGreater(told["BadText"], 1000)
        self.assertGreater(told["NoName"], 100)
        self.assertGreater(told[None], 1000)

    def judged(self, ground, text, told):
        found = refusal(read_program, ground, text)
        told[found and found[0]] = told.get(found and found[0], 0) + 1
        self.assertEqual(read_program(ground, text) if found is None else found, second_program(ground, text), text)

    def test_deep_texts(self):
        told = {}
        chance = random.Random(4)
        for _ in range(1500):
            text = "a := " + self.sum(chance, 8) if chance.random() < 0.5 else "while " + self.condition(chance, 7) + " {}"
            if len(text) <= 20000:
                self.judged(WIDE, text, told)
        self.assertGreater(told["TooDeep"], 300)
        self.assertGreater(told[None], 200)

    def bracketed(self, chance, text, ahead, behind):
        many = chance.choice((0, 1, 2, 6)) if chance.random() < 0.3 else 0
        return ahead * many + text + behind * many

    def sum(self, chance, deep):
        if deep <= 1 or chance.random() < 0.2:
            return self.bracketed(chance, chance.choice("ab017"), "(", ")")
        parts = self.sum(chance, deep - 1), self.sum(chance, deep - 1 - chance.randint(0, 3))
        return self.bracketed(chance, parts[0] + chance.choice("+-*") + parts[1], "(", ")")

    def condition(self, chance, deep):
        if deep <= 1 or chance.random() < 0.2:
            return self.bracketed(chance, self.sum(chance, 2) + chance.choice("=<") + self.sum(chance, 4), "[", "]")
        if chance.random() < 0.3:
            return self.bracketed(chance, "not " + self.condition(chance, deep - 1), "[", "]")
        parts = self.condition(chance, deep - 1), self.condition(chance, deep - 1 - chance.randint(0, 3))
        return self.bracketed(chance, parts[0] + chance.choice((" and ", " or ")) + parts[1], "[", "]")


class Wrong(unittest.TestCase):
    def test_grounds_come_ahead_of_texts(self):
        for thing in JUNK:
            self.assertEqual(refusal(read_program, thing, None)[0], "BadGround")
        self.assertEqual(refusal(read_program, ((), (), ()), "send"), ("BadGround", (2, -1)))
        for thing in (None, 1, (), ("send",)):
            self.assertEqual(refusal(read_program, GROUND, thing), ("BadText", -1))

    def test_equal_calls_tell_the_same(self):
        text = "if a = 0 { send 2; exit full } else { catch { log } done { a := a + 1 } }"
        self.assertEqual(read_program(GROUND, text), read_program(eval(repr(GROUND)), text))


if __name__ == "__main__":
    unittest.main()
