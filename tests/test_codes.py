"""Points [45], [46] and [47], and what [0.3] says of codes."""

import itertools
import time
import unittest

from lawsleft.alikes import alike, outcome_worth
from lawsleft.cheapest import plain_form
from lawsleft.codes import code, code_of, is_code, plain_code
from lawsleft.diagrams import diagram
from lawsleft.expressions import is_expression
from lawsleft.grounds import key, states
from lawsleft.rules import rules
from lawsleft.tables import table
from tests.samples import (
    ALWAYS, BARE, C_IS_0, FOREVER, JUNK, LOGGING, SENDING, WIDE, Chance, bent, book_of, doing, doubled,
    machine_outcome, nested, refusal, standing,
)

TWO_EXITS = ((("c", 2),), (("send", 1),), ("done", "other"))
THREE_EXITS = ((("c", 2),), (("send", 1),), ("done", "full", "lost"))
GREAT = ((("a", 8), ("b", 8)), (("k", 3), ("m", 1)), ("done", "full", "lost"))
EXAMPLE = (("switch", "c", (1, 4)), ("deed", "send", 2), ("set", "c", ("num", 1)), ("exit", "done"),
           ("deed", "send", 1), ("exit", "done"))
SEND = ("do", "send", 1)
DEED = ("deed", "send", 1)
FULL = ("exit", "full")
LOST = ("exit", "lost")
DONE = ("exit", "done")


def send(many):
    return doing(SENDING, (many,))


def code_outcomes(ground, rows):
    """Return the outcomes of a code from all states."""
    return tuple(machine_outcome(ground, rows, state) for state in states(ground))


class FormOfCodes(unittest.TestCase):
    def told(self, rows, expected, ground=SENDING):
        self.assertIs(is_code(ground, rows), expected)

    def test_the_example(self):
        self.told(EXAMPLE, True, TWO_EXITS)
        self.told(EXAMPLE, True)
        self.told(EXAMPLE, False, WIDE)
        self.assertIs(is_code(ground=SENDING, code=EXAMPLE), True)

    def test_how_many_rows(self):
        self.told((), False)
        self.told((DONE,), True)
        self.told((DONE,) * 2000, True)
        self.told((DEED,) * 1999 + (DONE,), True)
        self.told((DONE,) * 2001, False)
        self.told((DEED,) * 2000 + (DONE,), False)

    def test_the_last_row(self):
        for row, expected in ((DONE, True), (FULL, True), (("jump", 0), True), (("switch", "c", (0, 0)), True), (DEED, False),
                              (("set", "c", ("num", 0)), False), (("branch", C_IS_0, 0), False)):
            self.told((row,), expected)
            self.told((DEED, row), expected)
            self.told((row, DONE), True)

    def test_numbers_of_rows(self):
        for number, expected in ((0, True), (1, True), (2, False), (-1, False), (True, False), (False, False), (None, False),
                                 ("0", False), ((0,), False), (10 ** 999, False)):
            self.told((("jump", number), DONE), expected)
            self.told((("branch", C_IS_0, number), DONE), expected)
            self.told((("switch", "c", (number, 0)), DONE), expected)
            self.told((("switch", "c", (0, number)), DONE), expected)

    def test_right_rows(self):
        for row in (("set", "c", ("num", 99)), ("set", "c", ("sub", ("cell", "c"), ("num", 1))), ("deed", "send", 1),
                    ("deed", "send", 9), ("deed", "send", 10), ("deed", "send", 10 ** 900), ("branch", ALWAYS, 1),
                    ("branch", ("not", C_IS_0), 0), ("switch", "c", (1, 1)), ("jump", 1), ("exit", "done"), FULL):
            self.told((row, DONE), True)

    def test_wrong_rows(self):
        for row in (("set", "d", ("num", 1)), ("set", "send", ("num", 1)), ("set", "c", ("num", 100)), ("set", "c", 1),
                    ("set", "c", ("cell", "d")), ("set", "c"), ("set", "c", ("num", 1), 1), ("set", "c", C_IS_0),
                    ("deed", "c", 1), ("deed", "send", 0), ("deed", "send", -1), ("deed", "send", True), ("deed", "send"),
                    ("deed", "send", None), ("deed", "send", 1, 1), ("do", "send", 1), ("branch", ("num", 0), 0),
                    ("branch", ("eq", ("cell", "d"), ("num", 0)), 0), ("branch", ALWAYS), ("branch", ALWAYS, 0, 0),
                    ("branch", ALWAYS, 0, 1), ("switch", "c", (0,)), ("switch", "c", (0, 0, 0)), ("switch", "c", ()),
                    ("switch", "c", 0), ("switch", "send", (0, 0)), ("switch", "c"), ("switch", "c", (0, 0), 0),
                    ("switch", "c", [0, 0]), ("jump",), ("jump", 0, 0), ("exit",), ("exit", "lost"), ("exit", "c"),
                    ("exit", 0), ("exit", "full", 0), (), ("leaf",), ("if", C_IS_0, (), ()), ["exit", "done"], (0, 1),
                    ("law", 0), ("Jump", 0), (("jump", 0),)):
            self.told((row, DONE), False)
            self.told((DONE, row, DONE), False)
            self.told((row,), False)

    def test_depths(self):
        number, test = ("num", 1), C_IS_0
        for deep in range(1, 9):
            self.assertIs(is_expression(("c",), number), deep <= 6)
            self.told((("set", "c", number), DONE), deep <= 6)
            self.told((("branch", ("eq", number, ("num", 0)), 0), DONE), deep <= 6)
            self.told((("branch", test, 0), DONE), deep <= 6)
            number, test = ("add", ("cell", "c"), number), ("not", test)

    def test_other_grounds(self):
        self.told((DONE,), True, BARE)
        self.told((FULL,), False, BARE)
        self.told((("branch", ALWAYS, 0), DONE), True, BARE)
        self.told((("deed", "f", 3), DONE), True, LOGGING)
        self.told((("switch", "a", (0, 0, 1)), ("switch", "b", (0, 1))), True, WIDE)
        self.told((("switch", "b", (0, 0, 1)), DONE), False, WIDE)

    def test_any_values(self):
        for thing in JUNK:
            self.told(EXAMPLE, False, thing)
            self.told(thing, False)
            self.told((thing,), False)
            self.told((thing, DONE), False)
            self.told((DONE, thing), False)
            for row in (("set", thing, ("num", 1)), ("set", "c", thing), ("deed", thing, 1), ("branch", thing, 0),
                        ("switch", thing, (0, 0)), ("switch", "c", thing), ("switch", "c", (thing, thing)),
                        ("exit", thing), (thing, "c", 1), (thing,), (thing, 0)):
                if row not in (("switch", "c", (0, 0)), ("switch", "c", (1, 1))):
                    self.told((row, DONE), False)
            self.assertIs(is_code(SENDING, (("jump", thing), DONE)), type(thing) is int and thing in (0, 1))
            self.assertIs(is_code(SENDING, (("deed", "send", thing), DONE)), type(thing) is int and thing > 0)
        self.told((("set", "c", doubled("add", ("num", 1), 5)),) * 20 + (DONE,), True)
        self.told((("set", "c", doubled("add", ("num", 1), 10)), DONE), False)
        self.told((("branch", doubled("and", C_IS_0, 5), 0),) * 20 + (DONE,), True)
        self.told(nested(DONE, 40), False)
        self.told([DONE], False)

    def test_bent_codes(self):
        for thing in bent(EXAMPLE):
            if not isinstance(thing, tuple) or not all(isinstance(row, tuple) and row for row in thing):
                self.told(thing, False)
            else:
                self.assertIn(is_code(SENDING, thing), (True, False))

    def test_what_is_told_is_a_code(self):
        for seed in range(80):
            ground = (WIDE, SENDING, LOGGING, GREAT)[seed % 4]
            chance = Chance(ground, seed)
            program = chance.body(4)
            book = book_of(ground, chance.facts(3, 6, 0.2))
            self.assertIs(is_code(ground, code(book, program)), True)
            self.assertIs(is_code(ground, plain_code(ground, program)), True)


class CodesOfDiagrams(unittest.TestCase):
    def told(self, ground, outcomes, expected):
        rows = code_of(ground, diagram(ground, outcomes))
        self.assertEqual(rows, expected)
        self.assertIs(is_code(ground, rows), True)
        self.assertEqual(code_outcomes(ground, rows), outcomes)

    def test_the_example(self):
        outcomes = (((2,), 1, 0), ((1,), 1, 0))
        self.told(TWO_EXITS, outcomes, EXAMPLE)
        self.assertEqual(code_of(ground=TWO_EXITS, diagram=diagram(TWO_EXITS, outcomes)), EXAMPLE)

    def test_leaves_alone(self):
        self.told(SENDING, (None, None), (("jump", 0),))
        self.told(BARE, (None,), (("jump", 0),))
        self.told(BARE, (((), 0, 0),), (DONE,))
        self.told(SENDING, (((0,), 0, 1), ((0,), 1, 1)), (FULL,))
        self.told(LOGGING, (((12, 10 ** 20), 0, 0),), (("deed", "l", 12), ("deed", "f", 10 ** 20), DONE))
        self.told(LOGGING, (((0, 3), 0, 0),), (("deed", "f", 3), DONE))

    def test_some_never_end(self):
        self.told(SENDING, (None, ((0,), 1, 1)), (("switch", "c", (1, 2)), ("jump", 1), FULL))
        self.told(SENDING, (((1,), 1, 1), None),
                  (("switch", "c", (1, 4)), DEED, ("set", "c", ("num", 1)), FULL, ("jump", 4)))

    def test_deeds_then_moves_in_the_order_of_the_ground(self):
        outcomes = tuple(((2, 3), 5 - number, 2) for number in range(6))
        rows = code_of(WIDE, diagram(WIDE, outcomes))
        self.assertEqual(rows[:3], (("switch", "a", (1, 2, 3)), ("switch", "b", (4, 9)), ("switch", "b", (14, 18))))
        self.assertEqual(rows[4:9], (("deed", "k", 2), ("deed", "m", 3), ("set", "a", ("num", 2)), ("set", "b", ("num", 1)),
                                     ("exit", "lost")))
        self.assertEqual(rows[14:18], (("deed", "k", 2), ("deed", "m", 3), ("set", "b", ("num", 1)), ("exit", "lost")))
        self.assertEqual(code_outcomes(WIDE, rows), outcomes)

    def test_parts_that_stand_at_several_places_have_rows_once(self):
        outcomes = (((1, 0), 0, 0), ((0, 0), 1, 0), ((0, 0), 2, 0), ((0, 0), 3, 0), ((1, 0), 4, 0), ((0, 0), 5, 0))
        self.told(WIDE, outcomes, (("switch", "a", (1, 4, 1)), ("switch", "b", (2, 4)), ("deed", "k", 1), DONE, DONE))

    def test_grounds(self):
        self.assertEqual(refusal(code_of, ((), (), ()), ("never",)), ("BadGround", (2, -1)))
        for thing in JUNK:
            self.assertEqual(refusal(code_of, thing, ("never",))[0], "BadGround")


class CodesUnderBooks(unittest.TestCase):
    def test_cheaper_and_the_same_for_alike_programs(self):
        book = (SENDING, ((send(2), send(1)),))
        self.assertEqual(code(book=book, program=send(2)), (DEED, DONE))
        self.assertEqual(code(book, send(9) + (("if", ALWAYS, (), (FOREVER,)),)), (DEED, DONE))
        self.assertEqual(code(book, ()), (DONE,))
        self.assertEqual(code((SENDING, ()), send(20)), (("deed", "send", 20), DONE))
        self.assertEqual(code((SENDING, ()), (("set", "c", ("cell", "c")),)), (DONE,))
        self.assertEqual(code((SENDING, ()), (("set", "c", ("num", 1)),)),
                         (("switch", "c", (1, 3)), ("set", "c", ("num", 1)), DONE, DONE))

    def test_everything_and_never(self):
        book = (SENDING, ((send(2), (FOREVER,)),))
        self.assertEqual(code(book, (FOREVER,)), (("deed", "send", 2), DONE))
        self.assertEqual(code(book, send(5) + (("set", "c", ("num", 1)), FULL)), (("deed", "send", 2), DONE))
        self.assertEqual(code((SENDING, ()), (FOREVER,)), (("jump", 0),))
        self.assertEqual(code((SENDING, ()), (("while", C_IS_0, ()), FULL)), (("switch", "c", (1, 2)), ("jump", 1), FULL))

    def test_one_code_exactly_for_alike_programs(self):
        told = {True: 0, False: 0}
        for seed in range(120):
            ground = (WIDE, SENDING, LOGGING, GREAT)[seed % 4]
            chance = Chance(ground, seed)
            book = book_of(ground, chance.facts(3, 5, (0, 0.1, 0.5)[seed % 3]) or (("all", (1,) * len(ground[1])),))
            row = rules(book)
            programs = [chance.body(3), chance.body(2)] + [standing(side, Chance(ground, seed)) for side in book[1][0]]
            codes = [code(book, program) for program in programs]
            for one, two in itertools.combinations(range(4), 2):
                same = alike(book, programs[one], programs[two])
                self.assertIs(codes[one] == codes[two], same)
                told[same] += 1
            for program, rows in zip(programs, codes):
                ends = code_outcomes(ground, rows)
                self.assertEqual(ends, plain_form(book, program))
                for own, end in zip(table(ground, program), ends):
                    self.assertEqual(outcome_worth(ground, row, own), outcome_worth(ground, row, end))
                    if own is not None:
                        self.assertLessEqual(key(ground, end[0]), key(ground, own[0]))
        self.assertGreater(min(told.values()), 150)

    def test_no_alike_program_does_less(self):
        for seed in range(40):
            chance = Chance(LOGGING, seed)
            book = book_of(LOGGING, chance.facts(2, 3, 0.2))
            programs = [doing(LOGGING, v) for v in itertools.product(range(7), range(5))]
            least = {}
            for program in programs:
                rows = code(book, program)
                own = table(LOGGING, program)[0]
                done = machine_outcome(LOGGING, rows, ())
                least.setdefault(rows, done[0])
                self.assertLessEqual(key(LOGGING, done[0]), key(LOGGING, own[0]))
                self.assertEqual(least[rows], done[0])

    def test_a_great_ground_within_a_short_time(self):
        since = time.monotonic()
        for seed in range(10):
            chance = Chance(GREAT, seed)
            book = book_of(GREAT, chance.facts(10, 8, 0.05))
            rows = code(book, chance.body(4) + doing(GREAT, (60, 80)) + chance.body(3))
            self.assertIs(is_code(GREAT, rows), True)
        self.assertLess(time.monotonic() - since, 20)


class PlainCodes(unittest.TestCase):
    def told(self, program, *expected):
        self.assertEqual(plain_code(THREE_EXITS, program), expected)
        self.assertEqual(code_outcomes(THREE_EXITS, expected), table(THREE_EXITS, program))

    def test_the_example(self):
        program = (("if", C_IS_0, (("do", "send", 2), ("set", "c", ("num", 1))), (SEND,)),)
        expected = (("branch", C_IS_0, 4), ("deed", "send", 2), ("set", "c", ("num", 1)), ("jump", 5), DEED, DONE)
        self.assertEqual(plain_code(ground=TWO_EXITS, program=program), expected)
        self.assertEqual(code_outcomes(TWO_EXITS, expected), table(TWO_EXITS, program))

    def test_plain_statements(self):
        self.told((), DONE)
        self.told((SEND, ("set", "c", ("add", ("cell", "c"), ("num", 3))), ("do", "send", 9)),
                  DEED, ("set", "c", ("add", ("cell", "c"), ("num", 3))), ("deed", "send", 9), DONE)
        self.told((FULL, SEND, LOST), FULL, DEED, LOST, DONE)
        self.assertEqual(plain_code(BARE, ()), (DONE,))

    def test_ifs(self):
        self.told((("if", C_IS_0, (SEND,), ()), FULL), ("branch", C_IS_0, 3), DEED, ("jump", 3), FULL, DONE)
        self.told((("if", C_IS_0, (), (SEND,)),), ("branch", C_IS_0, 2), ("jump", 3), DEED, DONE)
        self.told((("if", C_IS_0, (), ()),), ("branch", C_IS_0, 2), ("jump", 2), DONE)
        inner = ("if", ALWAYS, (SEND,), (LOST,))
        self.told((SEND, ("if", C_IS_0, (inner,), (inner,))), DEED, ("branch", C_IS_0, 7), ("branch", ALWAYS, 5), DEED,
                  ("jump", 6), LOST, ("jump", 11), ("branch", ALWAYS, 10), DEED, ("jump", 11), LOST, DONE)

    def test_whiles(self):
        self.told((("while", C_IS_0, ()),), ("branch", C_IS_0, 2), ("jump", 0), DONE)
        self.told((SEND, ("while", C_IS_0, (SEND, ("set", "c", ("num", 1)))), FULL), DEED, ("branch", C_IS_0, 5), DEED,
                  ("set", "c", ("num", 1)), ("jump", 1), FULL, DONE)
        self.told((("while", ALWAYS, (("while", C_IS_0, (FULL,)), LOST)),), ("branch", ALWAYS, 6), ("branch", C_IS_0, 4),
                  FULL, ("jump", 1), LOST, ("jump", 0), DONE)

    def test_catches_without_pairs(self):
        self.told((("catch", (), ()),), ("jump", 1), DONE)
        self.told((("catch", (SEND, FULL), ()), SEND), DEED, FULL, ("jump", 3), DEED, DONE)

    def test_exits_that_are_caught(self):
        self.told((("catch", (FULL, LOST), (("full", (SEND,)),)),), ("jump", 3), LOST, ("jump", 5), DEED, ("jump", 5), DONE)
        self.told((("catch", (("if", C_IS_0, (FULL,), (LOST,)),), (("lost", ()), ("full", (SEND,)))), SEND),
                  ("branch", C_IS_0, 3), ("jump", 6), ("jump", 4), ("jump", 5), ("jump", 8), ("jump", 8), DEED, ("jump", 8),
                  DEED, DONE)

    def test_the_plain_exit_among_the_pairs(self):
        self.told((("catch", (SEND,), (("done", (FULL,)),)),), DEED, ("jump", 2), FULL, ("jump", 4), DONE)
        self.told((("catch", (FULL,), (("full", (SEND,)), ("done", (SEND, SEND)))),), ("jump", 2), ("jump", 4), DEED,
                  ("jump", 7), DEED, DEED, ("jump", 7), DONE)
        self.told((("catch", (), (("done", ()),)),), ("jump", 1), ("jump", 2), DONE)

    def test_exits_within_the_bodies_of_pairs_go_further_outward(self):
        inner = ("catch", (FULL,), (("full", (FULL, LOST)),))
        self.told((inner,), ("jump", 2), ("jump", 5), FULL, LOST, ("jump", 5), DONE)
        self.told((("catch", (inner,), (("full", (SEND,)),)),), ("jump", 2), ("jump", 5), ("jump", 6), LOST, ("jump", 5),
                  ("jump", 8), DEED, ("jump", 8), DONE)
        self.told((("catch", (), (("done", (FULL,)), ("full", (SEND,)))),), ("jump", 1), FULL, ("jump", 5), DEED,
                  ("jump", 5), DONE)

    def test_exits_that_an_outer_catch_takes(self):
        inner = ("catch", (FULL, LOST), (("full", ()),))
        self.told((("catch", (inner,), (("lost", (SEND,)),)),), ("jump", 3), ("jump", 5), ("jump", 4), ("jump", 4),
                  ("jump", 7), DEED, ("jump", 7), DONE)

    def test_all_programs_run_as_their_rows_do(self):
        for seed in range(250):
            ground = (WIDE, SENDING, GREAT)[seed % 3]
            program = Chance(ground, seed).body(5)
            rows = plain_code(ground, program)
            self.assertIs(is_code(ground, rows), True)
            self.assertEqual(code_outcomes(ground, rows), table(ground, program))

    def test_the_largest_programs(self):
        program = (("do", "send", 9),) * 39 + (("catch", (("do", "send", 9),) * 38, (("full", (SEND,) * 40), ("done", ()))),)
        self.assertEqual(len(plain_code(THREE_EXITS, program)), 39 + 38 + 1 + 41 + 1 + 1)
        deep = ()
        for _ in range(11):
            deep = (("catch", deep + (FULL,), (("full", (FULL,)),)),)
        rows = plain_code(THREE_EXITS, deep)
        self.assertEqual(code_outcomes(THREE_EXITS, rows), table(THREE_EXITS, deep))
        self.assertEqual(rows[-2:], (("jump", len(rows) - 1), DONE))


class Wrong(unittest.TestCase):
    def test_books_and_programs(self):
        bad = (("do", "send", 0),)
        for arguments, expected in (
            ((None, None), ("BadBook", -1)), (((((), (), ()), ()), None), ("BadGround", (2, -1))),
            (((SENDING, None), None), ("BadBook", -1)), (((SENDING, (((), bad),)), None), ("BadLaw", 0)),
            (((SENDING, ((send(41), ()),)), None), ("TooGreat", 0)), (((SENDING, ()), None), ("BadProgram", (-1,))),
            (((SENDING, ()), (FOREVER,) + bad), ("BadProgram", (1,))),
            (((SENDING, ()), (("if", ALWAYS, (FOREVER,) * 40, (FOREVER,) * 40),) * 2), ("TooMany", 121)),
        ):
            self.assertEqual(refusal(code, *arguments), expected)
        for thing in JUNK:
            self.assertIn(refusal(code, thing, ())[0], ("BadBook", "BadGround"))
            self.assertEqual(refusal(code, (SENDING, ()), thing)[0], "BadProgram")

    def test_plain_codes(self):
        self.assertEqual(refusal(plain_code, ((), (), ()), None), ("BadGround", (2, -1)))
        self.assertEqual(refusal(plain_code, SENDING, (SEND, ("while", C_IS_0, (LOST,)))), ("BadProgram", (1, 0, 0)))
        self.assertEqual(refusal(plain_code, SENDING, (("catch", (FOREVER,) * 40, ()),) * 3), ("TooMany", 121))
        for thing in JUNK:
            self.assertEqual(refusal(plain_code, thing, None)[0], "BadGround")
            self.assertEqual(refusal(plain_code, SENDING, thing)[0], "BadProgram")

    def test_nothing_is_changed(self):
        chance = Chance(WIDE, 9)
        book, program = book_of(WIDE, chance.facts(3, 4, 0.2)), chance.body(4)
        copies = eval(repr(book)), eval(repr(program))
        self.assertEqual(code(book, program), code(*copies))
        self.assertEqual(plain_code(WIDE, program), plain_code(WIDE, copies[1]))
        self.assertEqual((book, program), copies)
        made = diagram(WIDE, plain_form(book, program))
        copy = eval(repr(made))
        self.assertEqual(code_of(WIDE, made), code_of(WIDE, copy))
        self.assertEqual(made, copy)


if __name__ == "__main__":
    unittest.main()
