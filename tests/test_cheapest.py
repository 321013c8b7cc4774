"""Points [40] and [41]: plain forms, where they part, prices and what is saved."""

import unittest

from lawsleft.alikes import alike, outcome_worth
from lawsleft.cheapest import parting_state, plain_form, prices, saved
from lawsleft.grounds import key, price
from lawsleft.normals import everything
from lawsleft.papers import why
from lawsleft.rules import rules
from lawsleft.tables import table
from tests.samples import (
    ALWAYS, BARE, C_IS_0, FOREVER, JUNK, LOGGING, SENDING, WIDE, Chance, book_of, doing, refusal, standing,
)

FULL = ("exit", "full")
TO_1 = ("set", "c", ("num", 1))
PRICED = (SENDING[0], (("send", 5),), SENDING[2])


def send(many):
    return doing(SENDING, (many,))


MERGING = book_of(LOGGING, (("like", (0, 1), (1, 1)),))
LESS = (SENDING, ((send(2), send(1)),))
ENDING = (SENDING, ((send(2), (FOREVER,)),))


class PlainForms(unittest.TestCase):
    def test_counts_have_their_normals(self):
        self.assertEqual(plain_form(book=MERGING, program=(("do", "l", 3), ("do", "f", 2))), (((0, 2), 0, 0),))
        self.assertEqual(plain_form(MERGING, (("do", "l", 3),)), (((3, 0), 0, 0),))
        self.assertEqual(plain_form(LESS, send(7)), (((1,), 0, 0), ((1,), 1, 0)))
        self.assertEqual(plain_form(LESS, ()), (((0,), 0, 0), ((0,), 1, 0)))
        program = (("if", C_IS_0, send(3) + (TO_1,), send(1) + (FULL,)),)
        self.assertEqual(plain_form(LESS, program), (((1,), 1, 0), ((1,), 1, 1)))
        self.assertEqual(plain_form((SENDING, ()), program), (((3,), 1, 0), ((1,), 1, 1)))

    def test_everything_stays_and_takes_the_plain_exit(self):
        program = (("if", C_IS_0, send(3) + (TO_1, FULL), send(1) + (FULL,)),)
        self.assertEqual(plain_form(ENDING, program), (((2,), 0, 0), ((1,), 1, 1)))
        self.assertEqual(plain_form(ENDING, (TO_1,) + send(2)), (((2,), 0, 0), ((2,), 1, 0)))

    def test_programs_that_never_end(self):
        loop = (("while", C_IS_0, ()), FULL)
        self.assertEqual(plain_form(ENDING, loop), (((2,), 0, 0), ((0,), 1, 1)))
        self.assertEqual(plain_form(LESS, loop), (None, ((0,), 1, 1)))
        self.assertEqual(plain_form((SENDING, ()), (FOREVER,)), (None, None))
        self.assertEqual(plain_form(ENDING, (FOREVER,)), (((2,), 0, 0), ((2,), 1, 0)))

    def test_the_first_everything_of_the_row_is_taken(self):
        book = book_of(LOGGING, (("all", (9, 0)), ("all", (0, 1))))
        self.assertEqual(plain_form(book, (FOREVER,)), (((0, 1), 0, 0),))
        self.assertEqual(plain_form(book, doing(LOGGING, (9, 0))), (((0, 1), 0, 0),))
        self.assertEqual(plain_form(book, doing(LOGGING, (8, 0))), (((8, 0), 0, 0),))

    def test_without_kinds(self):
        self.assertEqual(plain_form((BARE, ()), ()), (((), 0, 0),))
        self.assertEqual(plain_form((BARE, ()), (FOREVER,)), (None,))
        self.assertEqual(plain_form((BARE, (((), (FOREVER,)),)), (FOREVER,)), (((), 0, 0),))
        ground = ((("a", 2),), (), ("done", "full"))
        self.assertEqual(plain_form((ground, (((), (FULL,)),)), (("set", "a", ("num", 1)), FULL)), (((), 0, 0), ((), 1, 0)))

    def test_equal_exactly_for_alike_programs_and_never_dearer(self):
        told = {True: 0, False: 0}
        for seed in range(150):
            ground = (WIDE, SENDING, LOGGING)[seed % 3]
            chance = Chance(ground, seed)
            book = book_of(ground, chance.facts(3, 5, (0, 0.1, 0.5)[seed % 3]) or (("all", (1,) * len(ground[1])),))
            row = rules(book)
            programs = [chance.body(3), chance.body(3)] + [standing(side, Chance(ground, seed)) for side in book[1][0]]
            forms = [plain_form(book, program) for program in programs]
            for program, form in zip(programs, forms):
                for number, (own, plain) in enumerate(zip(table(ground, program), form)):
                    self.assertEqual(outcome_worth(ground, row, own), outcome_worth(ground, row, plain))
                    if own is not None:
                        self.assertLessEqual(key(ground, plain[0]), key(ground, own[0]))
                    if outcome_worth(ground, row, own) == "all":
                        self.assertEqual(plain, (everything(ground, row), number, 0))
            for one in range(4):
                for two in range(4):
                    same = alike(book, programs[one], programs[two])
                    self.assertIs(same, forms[one] == forms[two])
                    told[same] += 1
                    part = parting_state(book, programs[one], programs[two])
                    self.assertIs(part is None, same)
                    if not same:
                        self.assertEqual(part, [v == w for v, w in zip(forms[one], forms[two])].index(False))
                        self.assertEqual(part, why(book, programs[one], programs[two])[1][0])
        self.assertGreater(min(told.values()), 300)

    def test_more_laws_do_not_make_them_dearer(self):
        for seed in range(60):
            chance = Chance(WIDE, seed)
            ground, laws = book_of(WIDE, chance.facts(4, 5, 0.2))
            program = chance.body(3)
            for many in range(len(laws)):
                for one, two in zip(plain_form((ground, laws[:many]), program), plain_form((ground, laws[:many + 1]), program)):
                    if one is not None:
                        self.assertLessEqual(key(ground, two[0]), key(ground, one[0]))


class PartingStates(unittest.TestCase):
    def test_the_least_number(self):
        two = (("if", C_IS_0, send(9), (FULL,)),)
        self.assertEqual(parting_state(book=LESS, one=send(1), two=two), 1)
        self.assertEqual(parting_state((SENDING, ()), send(1), two), 0)
        self.assertIsNone(parting_state(LESS, send(1), send(9)))
        self.assertIsNone(parting_state(LESS, two, two))
        self.assertEqual(parting_state(LESS, (FOREVER,), ()), 0)
        self.assertIsNone(parting_state(ENDING, (FOREVER,), send(2) + (TO_1, FULL)))
        self.assertEqual(parting_state(ENDING, (("while", ("not", C_IS_0), ()),), ()), 1)


class Prices(unittest.TestCase):
    def test_of_counts_and_of_none(self):
        self.assertEqual(prices(LOGGING, (((3, 2), 0, 0),)), (13,))
        self.assertEqual(prices(ground=LOGGING, outcomes=(None,)), (None,))
        self.assertEqual(prices(SENDING, (((3,), 1, 1), None)), (3, None))
        self.assertEqual(prices(PRICED, (None, ((10 ** 30,), 0, 0))), (None, 5 * 10 ** 30))
        self.assertEqual(prices(BARE, (((), 0, 0),)), (0,))

    def test_saved(self):
        priced = (PRICED, LESS[1])
        program = (("if", C_IS_0, send(3), send(1)),)
        self.assertEqual(saved(book=priced, program=program), (10, 0))
        self.assertEqual(saved((PRICED, ()), program), (0, 0))
        self.assertEqual(saved(priced, (("while", C_IS_0, ()), ("do", "send", 4))), (None, 15))
        self.assertEqual(saved((PRICED, ENDING[1]), (("while", C_IS_0, ()), ("do", "send", 4))), (None, 10))
        self.assertEqual(saved(MERGING, (("do", "l", 3), ("do", "f", 2))), (3,))
        self.assertEqual(saved((BARE, ()), ()), (0,))

    def test_as_chance_has_it(self):
        for seed in range(60):
            chance = Chance(WIDE, seed)
            book = book_of(WIDE, chance.facts(3, 5, 0.2))
            program = chance.body(3)
            own, plain = table(WIDE, program), plain_form(book, program)
            expected = tuple(None if v is None else price(WIDE, v[0]) - price(WIDE, w[0]) for v, w in zip(own, plain))
            self.assertEqual(saved(book, program), expected)
            self.assertEqual(prices(WIDE, own), tuple(None if v is None else price(WIDE, v[0]) for v in own))
            self.assertGreaterEqual(min([n for n in expected if n is not None], default=0), 0)


class Wrong(unittest.TestCase):
    def test_outcomes(self):
        good = ((2,), 1, 1)
        for thing in JUNK + ((), (good,), (good, good, good), [good, good], (good, None, None)):
            expected = -1 if not isinstance(thing, tuple) or len(thing) != 2 else 0
            if thing not in ((None, None),):
                self.assertEqual(refusal(prices, SENDING, thing), ("BadOutcomes", expected))
        for thing in JUNK[1:] + ((), (good,), ((2,), 1), ((2,), 1, 1, 1), ((2, 2), 1, 1), ((), 1, 1), ((-1,), 1, 1),
                                 ((True,), 1, 1), (2, 1, 1), (None, 1, 1), ((2,), 2, 1), ((2,), -1, 1), ((2,), True, 1),
                                 ((2,), None, 1), ((2,), 1, 2), ((2,), 1, -1), ((2,), 1, True), ((2,), 1, "full"),
                                 ((2,), (1,), 1), [(2,), 1, 1], (("2",), 1, 1)):
            self.assertEqual(refusal(prices, SENDING, (thing, None)), ("BadOutcomes", 0))
            self.assertEqual(refusal(prices, SENDING, (good, thing)), ("BadOutcomes", 1))
            self.assertEqual(refusal(prices, SENDING, (thing, thing)), ("BadOutcomes", 0))
        self.assertEqual(prices(SENDING, (good, good)), (2, 2))

    def test_grounds_come_first(self):
        for thing in JUNK:
            self.assertEqual(refusal(prices, thing, None)[0], "BadGround")
        self.assertEqual(refusal(prices, ((), (), ()), None), ("BadGround", (2, -1)))

    def test_books_and_programs(self):
        bad = (("do", "send", 0),)
        for call, many in ((plain_form, 1), (saved, 1), (parting_state, 2)):
            for arguments, expected in (
                ((None, None), ("BadBook", -1)), (((((), (), ()), ()), None), ("BadGround", (2, -1))),
                (((SENDING, None), None), ("BadBook", -1)), (((SENDING, (((), bad),)), None), ("BadLaw", 0)),
                (((SENDING, ((send(41), ()),)), None), ("TooGreat", 0)), ((LESS, None), ("BadProgram", (-1,))),
                ((LESS, (FOREVER,) + bad), ("BadProgram", (1,))),
                ((LESS, (("if", ALWAYS, (FOREVER,) * 40, (FOREVER,) * 40),) * 2), ("TooMany", 121)),
            ):
                self.assertEqual(refusal(call, *arguments, *(None,) * (many - 1)), expected)
                if many == 2 and arguments[0] == LESS:
                    self.assertEqual(refusal(call, LESS, (), arguments[1]), expected)
            for thing in JUNK:
                self.assertIn(refusal(call, thing, *((),) * many)[0], ("BadBook", "BadGround"))
                self.assertEqual(refusal(call, LESS, *((),) * (many - 1), thing)[0], "BadProgram")

    def test_nothing_is_changed(self):
        arguments = (LESS, (("if", C_IS_0, send(3), (FOREVER,)),))
        copy = eval(repr(arguments))
        for call in (plain_form, saved):
            self.assertEqual(call(*arguments), call(*copy))
        self.assertEqual(arguments, copy)


if __name__ == "__main__":
    unittest.main()
