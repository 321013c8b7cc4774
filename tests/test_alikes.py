"""Points [12], [30] and [31]: what outcomes are worth, and which programs are alike."""

import time
import unittest

from lawsleft.alikes import alike, outcome_worth
from lawsleft.facts import is_book
from lawsleft.grounds import states
from lawsleft.normals import normal
from lawsleft.rules import rules
from tests.samples import (
    ALWAYS, BARE, C_IS_0, FOREVER, JUNK, LOGGING, NEVER, SENDING, WIDE, Chance, book_of, doing, plain_outcome, refusal,
    standing,
)

FULL = ("exit", "full")
ROW = (((1, 1), (0, 1)),)
WITH_NONE = (((1, 1), (0, 1)), ((0, 3), None))
MERGING = book_of(LOGGING, (("like", (0, 1), (1, 1)),))
EVERYTHING = book_of(LOGGING, (("all", (0, 3)),))


class Worths(unittest.TestCase):
    def test_a_count_is_worth_its_normal(self):
        self.assertEqual(outcome_worth(LOGGING, ROW, ((3, 2), 0, 0)), ((0, 2), 0, 0))
        self.assertEqual(outcome_worth(LOGGING, ROW, ((3, 0), 0, 0)), ((3, 0), 0, 0))
        self.assertEqual(outcome_worth(SENDING, (((2,), (1,)),), ((9,), 1, 1)), ((1,), 1, 1))
        self.assertEqual(outcome_worth(ground=LOGGING, row=(), outcome=((3, 2), 0, 0)), ((3, 2), 0, 0))

    def test_a_count_without_a_normal_is_worth_all_wherever_it_ends(self):
        self.assertEqual(outcome_worth(LOGGING, WITH_NONE, ((5, 4), 0, 0)), "all")
        self.assertEqual(outcome_worth(LOGGING, WITH_NONE, ((5, 2), 0, 0)), ((0, 2), 0, 0))
        for number in (0, 1):
            for leaving in (0, 1):
                self.assertEqual(outcome_worth(SENDING, (((2,), None),), ((2,), number, leaving)), "all")
        self.assertEqual(outcome_worth(BARE, (((), None),), ((), 0, 0)), "all")

    def test_what_never_ends_is_worth_all_only_beside_everything(self):
        self.assertEqual(outcome_worth(LOGGING, WITH_NONE, None), "all")
        self.assertEqual(outcome_worth(LOGGING, (((0, 3), None),), None), "all")
        self.assertEqual(outcome_worth(LOGGING, ROW, None), "never")
        self.assertEqual(outcome_worth(LOGGING, (), None), "never")
        self.assertEqual(outcome_worth(BARE, (((), None),), None), "all")
        self.assertEqual(outcome_worth(BARE, (), None), "never")

    def test_wrong_ones(self):
        for thing in JUNK:
            self.assertEqual(refusal(outcome_worth, thing, thing, None)[0], "BadGround")
            if not isinstance(thing, tuple):
                self.assertEqual(refusal(outcome_worth, LOGGING, thing, None), ("BadRow", -1))
            self.assertEqual(refusal(outcome_worth, LOGGING, ROW + (thing,), None), ("BadRow", 1))
        self.assertEqual(refusal(outcome_worth, LOGGING, ROW + ROW, None), ("BadRow", 1))
        self.assertEqual(refusal(outcome_worth, LOGGING, (((0, 1), (1, 1)),), None), ("BadRow", 0))
        self.assertEqual(refusal(outcome_worth, ((), (), ()), None, None), ("BadGround", (2, -1)))


class Alike(unittest.TestCase):
    def told(self, book, one, two, expected):
        self.assertIs(alike(book, one, two), expected)
        self.assertIs(alike(book, two, one), expected)

    def test_the_example(self):
        one, two, log = (("do", "l", 3), ("do", "f", 2)), (("do", "f", 2),), (("do", "l", 1),)
        self.assertIs(alike(book=MERGING, one=one, two=two), True)
        self.told(MERGING, one, two, True)
        self.told(MERGING, one, log, False)
        self.told(MERGING, two, log, False)

    def test_each_program_is_alike_to_itself_and_to_those_with_the_same_table(self):
        for book in ((LOGGING, ()), MERGING, EVERYTHING):
            for program in ((), (FOREVER,), doing(LOGGING, (2, 3)), (("if", NEVER, (), ()),)):
                self.told(book, program, program, True)
                self.told(book, program, program + (("if", NEVER, (FOREVER,), ()),), True)
                self.told(book, program, (("catch", program, ()),), True)

    def test_without_laws_and_without_facts(self):
        for laws in ((), (((), ()),), (((FOREVER,), (FOREVER,)),), ((doing(SENDING, (3,)), doing(SENDING, (3,))),)):
            self.told((SENDING, laws), doing(SENDING, (1,)), doing(SENDING, (2,)), False)
            self.told((SENDING, laws), (FOREVER,), doing(SENDING, (2,)) + (FOREVER,), True)
            self.told((SENDING, laws), (FOREVER,), (), False)
            self.told((SENDING, laws), (("while", C_IS_0, ()),), (("if", C_IS_0, (FOREVER,), ()),), True)

    def test_programs_that_never_end(self):
        self.told(MERGING, (FOREVER,), (("do", "l", 1), FOREVER), True)
        self.told(MERGING, (FOREVER,), (), False)
        self.told(EVERYTHING, (FOREVER,), (), False)
        self.told(EVERYTHING, (FOREVER,), doing(LOGGING, (0, 3)), True)
        self.told(EVERYTHING, (FOREVER,), doing(LOGGING, (7, 9)), True)
        self.told(EVERYTHING, (FOREVER,), doing(LOGGING, (7, 2)), False)
        self.told(EVERYTHING, doing(LOGGING, (7, 3)), doing(LOGGING, (0, 4)), True)

    def test_states_and_exits_differ_but_not_behind_everything(self):
        to_1 = (("set", "c", ("num", 1)),)
        like = (SENDING, ((doing(SENDING, (1,)), doing(SENDING, (2,))),))
        everything = (SENDING, ((doing(SENDING, (2,)), (FOREVER,)),))
        for one, two in ((to_1, ()), ((FULL,), ()), (to_1 + (FULL,), (FULL,))):
            self.told(like, doing(SENDING, (1,)) + one, doing(SENDING, (2,)) + two, False)
            self.told(like, doing(SENDING, (1,)) + one, doing(SENDING, (2,)) + one, True)
            self.told(everything, one, two, False)
            self.told(everything, doing(SENDING, (2,)) + one, doing(SENDING, (5,)) + two, True)
            self.told(everything, doing(SENDING, (2,)) + one, (FOREVER,), True)

    def test_without_kinds_and_without_cells(self):
        self.told((BARE, ()), (), (FOREVER,), False)
        self.told((BARE, (((), (FOREVER,)),)), (), (FOREVER,), True)
        ground = ((("a", 2),), (), ("done", "full"))
        self.told((ground, ()), (FULL,), (), False)
        self.told((ground, (((), (FULL,)),)), (FULL,), (FOREVER, FULL), True)

    def test_unlike_in_one_state_alone(self):
        book = (SENDING, ((doing(SENDING, (1,)), doing(SENDING, (2,))),))
        two = (("if", C_IS_0, doing(SENDING, (2,)), doing(SENDING, (0,))),)
        self.told(book, doing(SENDING, (1,)), two, False)
        self.told(book, (("if", C_IS_0, doing(SENDING, (1,)), ()),), two, True)

    def test_by_outcomes_of_the_second_way_of_running(self):
        told = {True: 0, False: 0}
        for seed in range(200):
            chance = Chance(WIDE, seed)
            book = book_of(WIDE, chance.facts(2, 6, 0.3))
            programs = [chance.body(3), chance.body(3), standing(book[1][0][0], Chance(WIDE, seed))]
            programs.append(standing(book[1][0][1], Chance(WIDE, seed)))
            row = rules(book)
            for one, two in ((programs[0], programs[1]), (programs[2], programs[3]), (programs[0], programs[3])):
                expected = True
                for state in states(WIDE):
                    ends = [plain_outcome(WIDE, program, state) for program in (one, two)]
                    expected = expected and self.worth(row, ends[0]) == self.worth(row, ends[1])
                self.told(book, one, two, expected)
                told[expected] += 1
        self.assertGreater(min(told.values()), 100)

    def worth(self, row, outcome):
        if outcome is None:
            return "all" if [left for left, right in row if right is None] else "never"
        found = normal(WIDE, row, outcome[0])
        return "all" if found is None else (found, outcome[1:])

    def test_sides_of_laws_are_alike_wherever_they_stand(self):
        many = 0
        for seed in range(300):
            chance = Chance(WIDE, seed)
            laws = tuple((chance.body(2), chance.body(2)) for _ in range(2))
            if is_book((WIDE, laws)):
                for sides in laws:
                    one, two = [standing(side, Chance(WIDE, seed)) for side in sides]
                    self.assertIs(alike((WIDE, laws), one, two), True)
                    many += 1
        self.assertGreater(many, 300)

    def test_more_laws_leave_alike_what_is_alike(self):
        for seed in range(100):
            chance = Chance(WIDE, seed)
            ground, laws = book_of(WIDE, chance.facts(3, 6, 0.2))
            one, two = [standing(side, Chance(WIDE, seed)) for side in laws[0]]
            for many in range(1, len(laws) + 1):
                self.assertIs(alike((ground, laws[:many]), one, two), True)

    def test_all_states_of_a_great_ground_within_a_short_time(self):
        ground = ((("a", 8), ("b", 8)), (("k", 3), ("m", 1), ("n", 1)), ("done", "full"))
        since = time.monotonic()
        for seed in range(10):
            chance = Chance(ground, seed)
            book = book_of(ground, chance.facts(10, 5, 0.05))
            alike(book, chance.body(4) + doing(ground, (40, 99, 90)), chance.body(4) + doing(ground, (90, 40, 99)))
        self.assertLess(time.monotonic() - since, 20)


class Wrong(unittest.TestCase):
    def test_which_error_comes_first(self):
        bad = (("do", "send", 0),)
        self.assertEqual(refusal(alike, None, None, None), ("BadBook", -1))
        self.assertEqual(refusal(alike, (((), (), ()), None), None, None), ("BadGround", (2, -1)))
        self.assertEqual(refusal(alike, (SENDING, None), None, None), ("BadBook", -1))
        self.assertEqual(refusal(alike, (SENDING, (((), bad),)), None, None), ("BadLaw", 0))
        self.assertEqual(refusal(alike, (SENDING, ((doing(SENDING, (41,)), ()),)), None, None), ("TooGreat", 0))
        self.assertEqual(refusal(alike, (SENDING, ()), None, None), ("BadProgram", (-1,)))
        self.assertEqual(refusal(alike, (SENDING, ()), ((FOREVER,) + bad), None), ("BadProgram", (1,)))
        self.assertEqual(refusal(alike, (SENDING, ()), (), (("while", ALWAYS, bad),)), ("BadProgram", (0, 0, 0)))
        many = (("if", ALWAYS, (FOREVER,) * 40, (FOREVER,) * 40),) * 2
        self.assertEqual(refusal(alike, (SENDING, ()), (), many), ("TooMany", 121))
        # A program of another ground is none of the book's.
        self.assertEqual(refusal(alike, MERGING, (), (FULL,)), ("BadProgram", (0,)))

    def test_any_values(self):
        for thing in JUNK:
            self.assertIn(refusal(alike, thing, (), ())[0], ("BadBook", "BadGround"))
            self.assertEqual(refusal(alike, (SENDING, ()), thing, ())[0], "BadProgram")
            self.assertEqual(refusal(alike, (SENDING, ()), (), thing)[0], "BadProgram")

    def test_nothing_is_changed(self):
        arguments = (MERGING, doing(LOGGING, (3, 2)), doing(LOGGING, (0, 2)))
        copy = eval(repr(arguments))
        self.assertIs(alike(*arguments), True)
        self.assertIs(alike(*arguments), True)
        self.assertEqual(arguments, copy)


if __name__ == "__main__":
    unittest.main()
