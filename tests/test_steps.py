"""Points [5], [6], [8], [9] and [10], run from one state."""

import unittest

from lawsleft.grounds import states
from lawsleft.programs import made_program, placed
from lawsleft.steps import run
from tests.samples import (
    ALWAYS, BARE, C_IS_0, Chance, FOREVER, JUNK, LOGGING, NEVER, SENDING, WIDE, plain_outcome, refusal,
)

SEND = ("do", "send", 1)
FULL = ("exit", "full")
EIGHT = ((("a", 8), ("b", 8)), (("k", 3), ("m", 1)), ("done", "full", "lost", "late"))


def num(number):
    return "num", number


def cell(name):
    return "cell", name


def told(ground, program):
    """Return the outcomes from all states, run one by one."""
    made_program(ground, program)
    return tuple(run(ground, program, state) for state in states(ground))


class Outcomes(unittest.TestCase):
    def test_the_examples(self):
        program = (("if", C_IS_0, (("do", "send", 2), ("set", "c", num(1))), (FULL,)),)
        self.assertEqual(told(SENDING, program), (((2,), 1, 0), ((0,), 1, 1)))
        self.assertEqual(told(SENDING, (("while", C_IS_0, (SEND,)),)), (None, ((0,), 1, 0)))
        self.assertEqual(told(SENDING, placed(SENDING, (FULL,), (("full", (SEND,)),))), (((1,), 0, 0), ((1,), 1, 0)))
        self.assertEqual(told(SENDING, placed(SENDING, (), (("done", (FULL,)),))), (((0,), 0, 1), ((0,), 1, 1)))

    def test_by_name(self):
        self.assertEqual(run(ground=SENDING, program=(SEND,), state=(1,)), ((1,), 1, 0))

    def test_nothing_is_done(self):
        self.assertEqual(told(SENDING, ()), (((0,), 0, 0), ((0,), 1, 0)))
        self.assertEqual(run(BARE, (), ()), ((), 0, 0))
        self.assertEqual(run(LOGGING, (("do", "f", 2), ("do", "l", 3), ("do", "f", 9)), ()), ((3, 11), 0, 0))

    def test_sets_go_round_by_the_size(self):
        for expression, value in ((num(7), 7), (num(8), 0), (num(99), 3), (("sub", num(0), num(1)), 7),
                                  (("sub", num(3), num(99)), 0), (("mul", num(99), num(99)), 1),
                                  (("mul", ("sub", num(0), num(3)), num(5)), 1),
                                  (("sub", num(1), ("sub", num(2), num(3))), 2),
                                  (("add", ("sub", num(0), num(9)), num(2)), 1), (cell("b"), 5),
                                  (("add", cell("b"), ("mul", cell("a"), num(2))), 1)):
            self.assertEqual(run(EIGHT, (("set", "a", expression),), (2, 5)), ((0, 0), value * 8 + 5, 0))
        self.assertEqual(run(((("a", 1),), (), ("e",)), (("set", "a", num(5)),), (0,)), ((), 0, 0))

    def test_sets_see_the_sets_ahead_of_them(self):
        program = (("set", "a", cell("b")), ("set", "b", ("add", cell("a"), num(1))))
        self.assertEqual(run(EIGHT, program, (2, 5)), ((0, 0), 5 * 8 + 6, 0))

    def test_numbers_below_nought_are_compared_as_they_are(self):
        below = ("sub", num(0), num(1))
        for test, holds in ((("less", below, num(0)), True), (("less", num(0), below), False),
                            (("eq", below, num(1)), False), (("less", num(1), num(1)), False),
                            (("eq", ("mul", below, below), num(1)), True), (("not", ALWAYS), False),
                            (("and", ALWAYS, NEVER), False), (("and", NEVER, ALWAYS), False), (("not", NEVER), True),
                            (("and", ALWAYS, ALWAYS), True), (("or", NEVER, NEVER), False),
                            (("or", NEVER, ALWAYS), True), (("or", ALWAYS, NEVER), True)):
            program = (("if", test, (("do", "k", 1),), (("do", "m", 1),)),)
            self.assertEqual(run(EIGHT, program, (0, 0))[0], (1, 0) if holds else (0, 1))

    def test_exits(self):
        self.assertEqual(told(SENDING, (SEND, FULL, SEND)), (((1,), 0, 1), ((1,), 1, 1)))
        inside = ("while", ALWAYS, (("if", ALWAYS, (("do", "k", 2), ("exit", "lost")), ()),))
        self.assertEqual(run(WIDE, (inside, ("do", "k", 5)), (1, 1)), ((2, 0), 3, 2))

    def test_all_values_of_four_cells(self):
        ground = ((("a", 2), ("b", 2), ("c", 2), ("d", 8)), (), ("e",))
        for number, state in enumerate(states(ground)):
            self.assertEqual(run(ground, (), state), ((), number, 0))


class Loops(unittest.TestCase):
    def test_loops_that_end(self):
        up = ("set", "a", ("add", cell("a"), num(1)))
        program = (("while", ("less", cell("a"), num(7)), (up, ("do", "k", 2))),)
        self.assertEqual(run(EIGHT, program, (0, 3)), ((14, 0), 59, 0))
        self.assertEqual(run(EIGHT, program, (7, 3)), ((0, 0), 59, 0))
        inner = ("while", ("less", cell("b"), num(7)), (("set", "b", ("add", cell("b"), num(1))), ("do", "m", 1)))
        outer = ("while", ("less", cell("a"), num(7)), (up, ("set", "b", num(0)), inner))
        self.assertEqual(run(EIGHT, (outer,), (0, 0)), ((0, 49), 63, 0))

    def test_one_loop_through_all_states(self):
        on = (("set", "b", ("add", cell("b"), num(1))),
              ("if", ("eq", cell("b"), num(0)), (("set", "a", ("add", cell("a"), num(1))),), ()), ("do", "k", 1))
        last = ("and", ("eq", cell("a"), num(7)), ("eq", cell("b"), num(7)))
        program = (("while", ("not", last), on),)
        self.assertEqual(run(EIGHT, program, (0, 0)), ((63, 0), 63, 0))
        self.assertEqual(run(EIGHT, program, (7, 7)), ((0, 0), 63, 0))

    def test_loops_that_come_round(self):
        self.assertEqual(told(SENDING, (FOREVER,)), (None, None))
        self.assertEqual(told(SENDING, (SEND, FOREVER, FULL)), (None, None))
        back = ("set", "c", ("sub", num(1), cell("c")))
        self.assertEqual(told(SENDING, (("while", ALWAYS, (back,)),)), (None, None))
        self.assertEqual(told(SENDING, (("while", C_IS_0, (back, SEND)),)), (((1,), 1, 0), ((0,), 1, 0)))
        self.assertEqual(told(SENDING, (("if", C_IS_0, (FOREVER,), (SEND,)),)), (None, ((1,), 1, 0)))

    def test_a_loop_that_is_come_to_twice_in_one_state_by_another_one(self):
        inner = ("while", NEVER, ())
        self.assertEqual(told(SENDING, (("while", C_IS_0, (inner, SEND)),)), (None, ((0,), 1, 0)))
        # Two whiles that are alike are two.
        self.assertEqual(told(SENDING, (inner, inner, SEND)), (((1,), 0, 0), ((1,), 1, 0)))

    def test_a_loop_is_left_by_an_exit(self):
        program = (("catch", (("while", ALWAYS, (SEND, FULL)),), (("full", (SEND, SEND)),)), ("do", "send", 5))
        self.assertEqual(told(SENDING, program), (((8,), 0, 0), ((8,), 1, 0)))

    def test_what_never_ends_is_never_caught(self):
        for pairs in ((), (("done", (FULL,)),), (("done", ()), ("full", ()))):
            self.assertEqual(told(SENDING, (("catch", (SEND, FOREVER), pairs),)), (None, None))
        self.assertEqual(told(SENDING, (("catch", (FULL,), (("full", (FOREVER,)),)),)), (None, None))
        self.assertEqual(told(SENDING, (("catch", (), (("done", (FOREVER,)),)),)), (None, None))


class Catches(unittest.TestCase):
    def counts(self, *program):
        return run(EIGHT, program, (0, 0))

    def test_the_state_and_the_count_stay(self):
        first = (("do", "k", 2), ("set", "a", num(3)), ("exit", "full"), ("do", "k", 9))
        self.assertEqual(self.counts(("catch", first, (("full", (("do", "m", 4),)),)), ("do", "k", 1)),
                         ((3, 4), 24, 0))

    def test_the_pair_of_the_plain_exit(self):
        plain = ("done", (("do", "m", 1),))
        self.assertEqual(self.counts(("catch", (("do", "k", 1),), (plain,))), ((1, 1), 0, 0))
        self.assertEqual(self.counts(("catch", (("do", "k", 1),), (("full", (("do", "m", 9),)),))), ((1, 0), 0, 0))
        # It is not done behind the body of another pair, nor where the first body leaves.
        other = ("full", (("do", "m", 3),))
        self.assertEqual(self.counts(("catch", (("exit", "full"),), (plain, other))), ((0, 3), 0, 0))
        self.assertEqual(self.counts(("catch", (("exit", "lost"),), (plain, other))), ((0, 0), 0, 2))
        # What leaves in it goes further outward.
        self.assertEqual(self.counts(("catch", (), (("done", (("exit", "full"),)), other))), ((0, 0), 0, 1))

    def test_an_exit_goes_to_the_innermost_catch_that_names_it(self):
        inner = ("catch", (("exit", "full"),), (("full", (("do", "k", 1),)),))
        self.assertEqual(self.counts(("catch", (inner,), (("full", (("do", "m", 1),)),))), ((1, 0), 0, 0))
        passing = ("catch", (("exit", "full"),), (("lost", (("do", "k", 1),)), ("done", (("do", "k", 1),))))
        self.assertEqual(self.counts(("catch", (passing, ("do", "k", 5)), (("full", (("do", "m", 1),)),))),
                         ((0, 1), 0, 0))

    def test_what_leaves_in_the_body_of_a_pair_goes_further_outward(self):
        again = ("catch", (("exit", "full"),), (("full", (("do", "k", 1), ("exit", "full"))), ("lost", ())))
        self.assertEqual(self.counts(again), ((1, 0), 0, 1))
        self.assertEqual(self.counts(("catch", (again,), (("full", (("do", "m", 2),)),))), ((1, 2), 0, 0))
        other = ("catch", (("exit", "full"),), (("full", (("exit", "lost"),)), ("lost", (("do", "k", 9),))))
        self.assertEqual(self.counts(other), ((0, 0), 0, 2))
        self.assertEqual(self.counts(("catch", (other,), (("lost", (("do", "m", 2),)),))), ((0, 2), 0, 0))

    def test_an_exit_of_no_pair_leaves_the_program(self):
        self.assertEqual(self.counts(("catch", (("exit", "late"),), ()), ("do", "k", 1)), ((0, 0), 0, 3))

    def test_behind_a_catch_it_goes_on(self):
        for pairs in ((), (("full", ()),), (("done", ()),)):
            self.assertEqual(self.counts(("catch", (), pairs), ("do", "k", 1)), ((1, 0), 0, 0))
        self.assertEqual(self.counts(("catch", (("exit", "full"),), (("full", ()),)), ("do", "k", 1)), ((1, 0), 0, 0))

    def test_a_catch_stands_in_the_body_of_a_pair(self):
        within = ("catch", (("exit", "full"),), (("full", (("do", "m", 1),)),))
        self.assertEqual(self.counts(("catch", (("exit", "full"),), (("full", (within, ("do", "k", 1))),))),
                         ((1, 1), 0, 0))

    def test_a_catch_in_a_loop(self):
        first = (("if", ("eq", cell("a"), num(3)), (("exit", "lost"),), (("exit", "full"),)),)
        catch = ("catch", first, (("full", (("set", "a", ("add", cell("a"), num(1))), ("do", "k", 1))),))
        self.assertEqual(self.counts(("while", ALWAYS, (catch,))), ((3, 0), 24, 2))


class Wrong(unittest.TestCase):
    def test_which_error_comes_first(self):
        self.assertEqual(refusal(run, None, None, None), ("BadGround", -1))
        self.assertEqual(refusal(run, SENDING, (SEND, None), None), ("BadProgram", (1,)))
        self.assertEqual(refusal(run, SENDING, (("while", C_IS_0, (SEND,) * 40),) * 3, None), ("TooMany", 121))
        self.assertEqual(refusal(run, SENDING, (), None), ("BadState", 0))

    def test_what_is_no_state(self):
        for state in ((), (0, 0), (2,), (-1,), (True,), (False,), ("0",), (None,), 0, "0", [0], ((0,),)):
            self.assertEqual(refusal(run, SENDING, (), state), ("BadState", 0))
        for state in JUNK:
            self.assertEqual(refusal(run, WIDE, (), state), ("BadState", 0))
        for state in ((3, 0), (0, 2), (0,), (0, 0, 0)):
            self.assertEqual(refusal(run, WIDE, (), state), ("BadState", 0))
        self.assertEqual(refusal(run, BARE, (), (0,)), ("BadState", 0))


class Chances(unittest.TestCase):
    def test_programs_as_chance_has_them(self):
        never = 0
        for seed, ground in enumerate((SENDING, WIDE, EIGHT, LOGGING) * 100):
            program = Chance(ground, seed).body(4)
            for state in states(ground):
                outcome = plain_outcome(ground, program, state)
                never += outcome is None
                self.assertEqual(run(ground, program, state), outcome, (program, state))
        self.assertGreater(never, 100)


if __name__ == "__main__":
    unittest.main()
