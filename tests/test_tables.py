"""Points [8], [9] and [10], from all states, and how quickly."""

import time
import unittest

from lawsleft.grounds import states
from lawsleft.programs import made_program, placed
from lawsleft.tables import same_table, table
from tests.samples import ALWAYS, BARE, C_IS_0, Chance, FOREVER, LOGGING, SENDING, WIDE, plain_outcome, refusal

SEND = ("do", "send", 1)
FULL = ("exit", "full")
GREAT = ((("a", 8), ("b", 8)), (("k", 3), ("m", 1)), ("done", "full", "lost"))


class Tables(unittest.TestCase):
    def test_the_examples(self):
        program = (("if", C_IS_0, (("do", "send", 2), ("set", "c", ("num", 1))), (FULL,)),)
        self.assertEqual(table(SENDING, program), (((2,), 1, 0), ((0,), 1, 1)))
        self.assertEqual(table(SENDING, (("while", C_IS_0, (SEND,)),)), (None, ((0,), 1, 0)))
        self.assertEqual(table(SENDING, placed(SENDING, (FULL,), (("full", (SEND,)),))), (((1,), 0, 0), ((1,), 1, 0)))
        self.assertEqual(table(SENDING, placed(SENDING, (), (("done", (FULL,)),))), (((0,), 0, 1), ((0,), 1, 1)))

    def test_by_name_and_without_cells(self):
        self.assertEqual(table(ground=LOGGING, program=(("do", "f", 3),)), (((0, 3), 0, 0),))
        self.assertEqual(table(BARE, ()), (((), 0, 0),))
        self.assertEqual(table(BARE, (FOREVER,)), (None,))

    def test_loops_that_never_end_from_some_states_and_from_all(self):
        back = ("set", "c", ("sub", ("num", 1), ("cell", "c")))
        self.assertEqual(table(SENDING, (("while", C_IS_0, (SEND, back)), SEND)), (((2,), 1, 0), ((1,), 1, 0)))
        self.assertEqual(table(SENDING, (("while", C_IS_0, ()), FULL)), (None, ((0,), 1, 1)))
        self.assertEqual(table(SENDING, (("while", ALWAYS, (back, SEND)),)), (None, None))

    def test_catches_within_catches(self):
        inner = ("catch", (("if", C_IS_0, (FULL,), ()),), (("full", (SEND, FULL)), ("done", (("do", "send", 3),))))
        outer = ("catch", (inner, ("do", "send", 5)), (("full", (("do", "send", 9),)),))
        self.assertEqual(table(SENDING, (outer,)), (((10,), 0, 0), ((8,), 1, 0)))
        plain = ("catch", (inner,), (("done", (FULL,)), ("full", ())))
        self.assertEqual(table(SENDING, (plain,)), (((1,), 0, 0), ((3,), 1, 1)))

    def test_placed_programs_go_on_where_the_program_leaves(self):
        for seed in range(60):
            chance = Chance(WIDE, seed)
            program = chance.body(3)
            puts = tuple((name, chance.body(2)) for name in ("lost", "done"))
            there = {name: table(WIDE, body) for name, body in puts}
            for end, whole in zip(table(WIDE, program), table(WIDE, placed(WIDE, program, puts))):
                name = WIDE[2][end[2]] if end else None
                if name in there and there[name][end[1]] is not None:
                    count, at, leaving = there[name][end[1]]
                    end = (tuple(m + n for m, n in zip(end[0], count)), at, leaving)
                elif name in there:
                    end = None
                self.assertEqual(whole, end)

    def test_tables_as_chance_has_them(self):
        for seed, ground in enumerate((SENDING, WIDE, GREAT) * 40):
            program = Chance(ground, 1000 + seed).body(4)
            expected = tuple(plain_outcome(ground, program, state) for state in states(ground))
            self.assertEqual(table(ground, program), expected)
            self.assertIs(same_table(ground, program, (("catch", program, ()),)), True)


class SameTables(unittest.TestCase):
    def test_same_and_unlike_ones(self):
        for one, two, told in (((SEND, SEND), (("do", "send", 2),), True), ((SEND,), (("do", "send", 2),), False),
                               ((), (("set", "c", ("cell", "c")),), True), ((), (("set", "c", ("num", 1)),), False),
                               ((), (FULL,), False), ((FOREVER,), (SEND, FOREVER), True), ((FOREVER,), (), False),
                               ((("while", C_IS_0, ()),), (("if", C_IS_0, (FOREVER,), ()),), True),
                               ((FULL, SEND), (FULL,), True)):
            self.assertIs(same_table(SENDING, one, two), told)
            self.assertIs(same_table(ground=SENDING, one=two, two=one), told)


class Wrong(unittest.TestCase):
    def test_table(self):
        self.assertEqual(refusal(table, None, None), ("BadGround", -1))
        self.assertEqual(refusal(table, SENDING, None), ("BadProgram", (-1,)))
        self.assertEqual(refusal(table, SENDING, (SEND, ("do", "log", 1))), ("BadProgram", (1,)))
        self.assertEqual(refusal(table, SENDING, (("while", C_IS_0, (SEND,) * 40),) * 3), ("TooMany", 121))

    def test_same_table(self):
        self.assertEqual(refusal(same_table, ((), (), ()), None, None), ("BadGround", (2, -1)))
        self.assertEqual(refusal(same_table, SENDING, None, (None,)), ("BadProgram", (-1,)))
        self.assertEqual(refusal(same_table, SENDING, (SEND, SEND, None), (None,)), ("BadProgram", (2,)))
        self.assertEqual(refusal(same_table, SENDING, (), (SEND, None)), ("BadProgram", (1,)))
        self.assertEqual(refusal(same_table, SENDING, (), (("while", C_IS_0, (SEND,) * 40),) * 3), ("TooMany", 121))


class Quickly(unittest.TestCase):
    def test_great_programs_with_numbers_and_tests_three_deep(self):
        great = ("add", ("mul", ("cell", "a"), ("num", 8)), ("sub", ("cell", "b"), ("num", 1)))
        both = ("and", ("less", great, ("num", 61)), ("less", ("num", 0), ("add", great, great[1])))
        test = ("or", both, ("less", ("cell", "a"), ("num", 7)))
        on = (("set", "b", ("add", ("cell", "b"), ("num", 1))), ("do", "k", 1),
              ("if", ("eq", ("cell", "b"), ("num", 0)), (("set", "a", ("add", ("cell", "a"), ("num", 1))),), ()))
        body = on * 7
        for _ in range(10):
            body = (("while", test, body + on[:1] * 6),)
        program = made_program(GREAT, body)
        since = time.monotonic()
        found = table(GREAT, program)
        self.assertEqual([end is None for end in found], [plain_outcome(GREAT, program, s) is None
                                                          for s in states(GREAT)])
        self.assertLess(time.monotonic() - since, 30)


if __name__ == "__main__":
    unittest.main()
