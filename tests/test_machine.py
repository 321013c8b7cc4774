"""Points [48] and [49], and what [0.3] says of codes that are run."""

import time
import unittest

from lawsleft.alikes import outcome_worth
from lawsleft.codes import code, is_code, plain_code
from lawsleft.grounds import key, price, states
from lawsleft.machine import code_table, meter, run_code
from lawsleft.normals import everything
from lawsleft.rules import rules
from lawsleft.tables import table
from tests.samples import (
    ALWAYS, BARE, C_IS_0, JUNK, LOGGING, NEVER, SENDING, WIDE, Chance, PlainRun, bent, book_of, machine_outcome,
    refusal,
)

EXAMPLE = (("switch", "c", (1, 4)), ("deed", "send", 2), ("set", "c", ("num", 1)), ("exit", "done"),
           ("deed", "send", 1), ("exit", "done"))
GREAT = ((("a", 8), ("b", 8)), (("k", 3), ("m", 1), ("p", 2)), ("done", "full", "lost"))
DONE = ("exit", "done")
FULL = ("exit", "full")
DEED = ("deed", "send", 1)


def rows_done(ground, rows, state):
    """Return how many rows of a code are done from a state, None if it never ends."""
    way = PlainRun(ground, state)
    at, met, many = 0, set(), 0
    while (at, tuple(way.cells.values())) not in met:
        met.add((at, tuple(way.cells.values())))
        row = rows[at]
        many += 1
        at += 1
        if row[0] == "exit":
            return many
        if row[0] == "set":
            way.cells[row[1]] = way.number(row[2]) % way.sizes[row[1]]
        elif row[0] == "branch":
            at = at if way.holds(row[1]) else row[2]
        elif row[0] == "switch":
            at = row[2][way.cells[row[1]]]
        elif row[0] == "jump":
            at = row[1]
    return None


def chance_code(chance, many):
    """Return a code as chance has it."""
    cells, kinds, exits = chance.ground
    rows = []
    for index in range(many):
        words = ["set", "branch", "switch"] if cells else []
        word = chance.random.choice(words + ["deed"] * 2 + ["jump", "exit"])
        if index == many - 1:
            word = chance.random.choice(["switch", "jump", "exit"] if cells else ["jump", "exit"])
        goal = chance.random.randrange(many)
        if word == "set":
            rows.append((word, chance.random.choice(cells)[0], chance.number(3)))
        elif word == "deed":
            rows.append((word, chance.random.choice(kinds)[0], chance.random.choice((1, 2, 10, 10 ** 20))))
        elif word == "branch":
            rows.append((word, chance.test(3), goal))
        elif word == "switch":
            name, size = chance.random.choice(cells)
            rows.append((word, name, tuple(chance.random.randrange(many) for _ in range(size))))
        else:
            rows.append((word, goal if word == "jump" else chance.random.choice(exits)))
    return tuple(rows)


class Runs(unittest.TestCase):
    def told(self, rows, *outcomes, ground=SENDING):
        self.assertEqual(code_table(ground, rows), outcomes)
        self.assertEqual(tuple(run_code(ground, rows, state) for state in states(ground)), outcomes)

    def test_the_example(self):
        self.told(EXAMPLE, ((2,), 1, 0), ((1,), 1, 0))
        self.assertEqual(code_table(ground=SENDING, code=EXAMPLE), (((2,), 1, 0), ((1,), 1, 0)))
        self.assertEqual(meter(ground=SENDING, code=EXAMPLE), ((4, 2), (3, 1)))
        self.assertEqual(run_code(ground=SENDING, code=EXAMPLE, state=(0,)), ((2,), 1, 0))

    def test_codes_of_one_row(self):
        self.told((DONE,), ((0,), 0, 0), ((0,), 1, 0))
        self.told((FULL,), ((0,), 0, 1), ((0,), 1, 1))
        self.told((("jump", 0),), None, None)
        self.told((("switch", "c", (0, 0)),), None, None)
        self.told((DONE,), ((), 0, 0), ground=BARE)
        self.assertEqual(meter(SENDING, (DONE,)), ((1, 0), (1, 0)))
        self.assertEqual(meter(SENDING, (("jump", 0),)), (None, None))
        self.assertEqual(meter(BARE, (DONE,)), ((1, 0),))

    def test_sets_are_told_modulo_the_size(self):
        self.told((("set", "c", ("sub", ("num", 0), ("num", 1))), DONE), ((0,), 1, 0), ((0,), 1, 0))
        self.told((("set", "c", ("add", ("cell", "c"), ("num", 99))), DONE), ((0,), 1, 0), ((0,), 0, 0))
        self.told((("set", "a", ("sub", ("cell", "b"), ("num", 2))), ("exit", "lost")), ((0, 0), 2, 2), ((0, 0), 5, 2),
                  ((0, 0), 2, 2), ((0, 0), 5, 2), ((0, 0), 2, 2), ((0, 0), 5, 2), ground=WIDE)

    def test_deeds_of_any_number(self):
        self.told((("deed", "send", 10 ** 30), DEED, DONE), ((10 ** 30 + 1,), 0, 0), ((10 ** 30 + 1,), 1, 0))
        self.assertEqual(meter(LOGGING, (("deed", "f", 7), ("deed", "l", 4), ("deed", "f", 1), DONE)), ((4, 44),))
        self.assertEqual(code_table(LOGGING, (("deed", "f", 7), ("deed", "l", 4), DONE)), (((4, 7), 0, 0),))

    def test_branches_go_on_where_the_test_holds(self):
        self.told((("branch", C_IS_0, 3), DEED, DONE, FULL), ((1,), 0, 0), ((0,), 1, 1))
        self.told((("branch", ALWAYS, 0), DONE), ((0,), 0, 0), ((0,), 1, 0))
        self.told((("branch", NEVER, 0), DONE), None, None)
        self.told((("branch", ("not", C_IS_0), 2), ("set", "c", ("num", 0)), DONE), ((0,), 0, 0), ((0,), 0, 0))

    def test_switches_go_by_the_value(self):
        self.told((("switch", "a", (3, 2, 1)), DONE, ("deed", "k", 1), FULL), ((0, 0), 0, 1), ((0, 0), 1, 1),
                  ((1, 0), 2, 1), ((1, 0), 3, 1), ((0, 0), 4, 0), ((0, 0), 5, 0), ground=WIDE)

    def test_a_row_that_is_come_to_again_in_the_same_state(self):
        self.told((DEED, ("jump", 0)), None, None)
        self.told((("branch", C_IS_0, 2), ("jump", 0), DONE), None, ((0,), 1, 0))
        self.told((("set", "c", ("sub", ("num", 1), ("cell", "c"))), ("jump", 0)), None, None)
        self.assertEqual(meter(SENDING, (("branch", C_IS_0, 2), ("jump", 0), DONE)), (None, (2, 0)))

    def test_a_row_that_is_come_to_again_in_another_state(self):
        rows = (DEED, ("branch", C_IS_0, 4), ("set", "c", ("num", 1)), ("jump", 0), FULL)
        self.told(rows, ((2,), 1, 1), ((1,), 1, 1))
        self.assertEqual(meter(SENDING, rows), ((7, 2), (3, 1)))
        ring = (("branch", ("less", ("cell", "a"), ("num", 2)), 4), ("set", "a", ("add", ("cell", "a"), ("num", 1))),
                ("deed", "m", 5), ("jump", 0), DONE)
        self.told(ring, ((0, 10), 4, 0), ((0, 10), 5, 0), ((0, 5), 4, 0), ((0, 5), 5, 0), ((0, 0), 4, 0), ((0, 0), 5, 0),
                  ground=WIDE)

    def test_codes_as_chance_has_them(self):
        told = {True: 0, False: 0}
        for seed in range(600):
            ground = (WIDE, SENDING, GREAT, LOGGING)[seed % 4]
            chance = Chance(ground, seed)
            rows = chance_code(chance, chance.random.randint(1, 20))
            self.assertIs(is_code(ground, rows), True)
            expected = tuple(machine_outcome(ground, rows, state) for state in states(ground))
            self.assertEqual(code_table(ground, rows), expected)
            counts = [rows_done(ground, rows, state) for state in states(ground)]
            self.assertEqual(meter(ground, rows), tuple(
                None if end is None else (many, price(ground, end[0])) for many, end in zip(counts, expected)))
            for state in chance.random.sample(states(ground), min(3, len(states(ground)))):
                self.assertEqual(run_code(ground, rows, state), expected[states(ground).index(state)])
            for end in expected:
                told[end is None] += 1
        self.assertGreater(min(told.values()), 1000)

    def test_great_codes_within_a_short_time(self):
        since = time.monotonic()
        sum_of = ("add", ("mul", ("cell", "a"), ("num", 3)), ("mul", ("cell", "b"), ("num", 5)))
        less = ("and", ("or", ("less", sum_of, ("num", 99)), ("eq", sum_of, sum_of)), ("not", ("eq", sum_of, ("num", 99))))
        rows = tuple(("branch", less, (index + 1) % 2000) for index in range(1998)) + (("deed", "k", 1), DONE)
        self.assertEqual(code_table(GREAT, rows), tuple(((1, 0, 0), number, 0) for number in range(64)))
        jumps = tuple(("jump", (index + 1) % 2000) for index in range(2000))
        self.assertEqual(meter(GREAT, jumps), (None,) * 64)
        self.assertEqual(meter(GREAT, jumps[:1999] + (DONE,)), ((2000, 0),) * 64)
        self.assertLess(time.monotonic() - since, 10)


class CodesOfPrograms(unittest.TestCase):
    def test_plain_codes_run_as_their_programs(self):
        for seed in range(120):
            ground = (WIDE, SENDING, GREAT)[seed % 3]
            program = Chance(ground, seed).body(5)
            self.assertEqual(code_table(ground, plain_code(ground, program)), table(ground, program))

    def test_codes_under_books_are_alike_and_no_dearer(self):
        for seed in range(90):
            ground = (WIDE, SENDING, GREAT)[seed % 3]
            chance = Chance(ground, seed)
            book = book_of(ground, chance.facts(3, 4, 0.2))
            program = chance.body(4)
            row = rules(book)
            ends = code_table(ground, code(book, program))
            for number, (own, end) in enumerate(zip(table(ground, program), ends)):
                worth = outcome_worth(ground, row, own)
                self.assertEqual(worth, outcome_worth(ground, row, end))
                if worth == "all":
                    self.assertEqual(end, (everything(ground, row), number, 0))
                elif own is not None:
                    self.assertEqual(end, worth)
                    self.assertLessEqual(key(ground, end[0]), key(ground, own[0]))


class Wrong(unittest.TestCase):
    def test_grounds_come_first(self):
        for call, more in ((run_code, (None, None)), (code_table, (None,)), (meter, (None,))):
            self.assertEqual(refusal(call, ((), (), ()), *more), ("BadGround", (2, -1)))
            for thing in JUNK:
                self.assertEqual(refusal(call, thing, *more)[0], "BadGround")

    def test_codes_come_before_states(self):
        for call, more in ((run_code, (None,)), (code_table, ()), (meter, ())):
            for thing in JUNK + ((), (DEED,), (("jump", 1),), (("exit", "lost"),), (("branch", C_IS_0, 0),), (DONE,) * 2001):
                self.assertEqual(refusal(call, SENDING, thing, *more), ("BadCode", -1))
            for rows in bent(EXAMPLE):
                if not is_code(SENDING, rows):
                    self.assertEqual(refusal(call, SENDING, rows, *more), ("BadCode", -1))

    def test_states(self):
        for thing in JUNK + ((), (2,), (-1,), (0, 0), ("0",), (True,), (None,), ((0,),)):
            self.assertEqual(refusal(run_code, SENDING, EXAMPLE, thing), ("BadState", 0))
        self.assertEqual(refusal(run_code, BARE, (DONE,), (0,)), ("BadState", 0))
        self.assertEqual(refusal(run_code, WIDE, (DONE,), (2, 2)), ("BadState", 0))

    def test_nothing_is_changed_and_equal_calls_tell_the_same(self):
        chance = Chance(WIDE, 5)
        rows = chance_code(chance, 30)
        copy = eval(repr(rows))
        self.assertEqual(code_table(WIDE, rows), code_table(WIDE, copy))
        self.assertEqual(meter(WIDE, rows), meter(WIDE, rows))
        self.assertEqual(rows, copy)


if __name__ == "__main__":
    unittest.main()
