"""Point [0.3]: what holds over the whole program, asked at desks and of books as chance has them."""

import itertools
import unittest

from lawsleft.alikes import alike, outcome_worth
from lawsleft.booktexts import print_entry, read_entry
from lawsleft.codes import code
from lawsleft.desk import Desk, desk_of
from lawsleft.facts import facts
from lawsleft.grounds import key, nought, price, states
from lawsleft.groundtexts import print_ground, read_ground
from lawsleft.joins import joined
from lawsleft.kernel import no_right, yes_right
from lawsleft.machine import code_table, meter, run_code
from lawsleft.normals import everything, normal
from lawsleft.optimiser import optimised, road_right
from lawsleft.papers import why
from lawsleft.paths import derivation_right
from lawsleft.printprograms import print_program
from lawsleft.readprograms import read_program
from lawsleft.rules import derivation, rules
from lawsleft.tables import table
from tests.samples import LOGGING, SENDING, WIDE, Chance, book_of, doing, refusal, standing

GROUNDS = (WIDE, SENDING, LOGGING)


def sample(seed):
    """Return a ground, a book of it and some programs, the same ones for equal seeds."""
    ground = GROUNDS[seed % 3]
    chance = Chance(ground, seed)
    book = book_of(ground, chance.facts(3, 4, (0, 0.2, 0.5)[seed % 3]) or (("all", (1,) * len(ground[1])),))
    programs = [chance.body(3), chance.body(2), doing(ground, chance.count(9))]
    programs += [standing(side, Chance(ground, seed)) for side in book[1][0]]
    return ground, book, programs


class WhatHolds(unittest.TestCase):
    def test_alike_by_worths_and_papers(self):
        told = {True: 0, False: 0}
        for seed in range(40):
            ground, book, programs = sample(seed)
            row = rules(book)
            for one, two in itertools.combinations(programs, 2):
                same = [outcome_worth(ground, row, end) for end in table(ground, one)] == [
                    outcome_worth(ground, row, end) for end in table(ground, two)]
                self.assertIs(alike(book, one, two), same)
                word, paper = why(book, one, two)
                self.assertEqual(word, "yes" if same else "no")
                self.assertIs(yes_right(book, one, two, paper), same)
                self.assertIs(no_right(book, one, two, paper), not same)
                told[same] += 1
        self.assertGreater(min(told.values()), 30)

    def test_sides_are_alike_wherever_they_stand(self):
        for seed in range(60):
            ground, book, _ = sample(seed)
            for sides in book[1]:
                one, two = [standing(side, Chance(ground, seed + 1000)) for side in sides]
                self.assertIs(alike(book, one, two), True)
                self.assertEqual(code(book, one), code(book, two))

    def test_one_row_for_books_of_one_meaning(self):
        for seed in range(40):
            ground, book, _ = sample(seed)
            row = rules(book)
            turned = (ground, tuple((two, one) for one, two in book[1][::-1]))
            self.assertEqual(rules(turned), row)
            self.assertEqual(rules((ground, book[1] + (((), ()),) + book[1])), row)
            self.assertIs(derivation_right(ground, facts(book), row, derivation(book)), True)
            for fact in facts(book):
                ends = [None if worth is None else normal(ground, row, worth) for worth in (fact[1:] + (None,))[:2]]
                self.assertEqual(ends[0], ends[1])

    def test_normals_are_the_least_counts(self):
        for seed in range(20):
            chance = Chance(LOGGING, seed)
            book = book_of(LOGGING, chance.facts(2, 3, 0.2))
            row, least = rules(book), {}
            counts = sorted(itertools.product(range(9), range(6)), key=lambda v: key(LOGGING, v))
            for v in counts:
                end = normal(LOGGING, row, v)
                self.assertEqual(least.setdefault(end, v), v if end is None and least[None] == v else least[end])
                if end is not None:
                    self.assertLessEqual(key(LOGGING, end), key(LOGGING, v))
            if None in least and everything(LOGGING, row) in counts:
                self.assertEqual(least[None], everything(LOGGING, row))

    def test_codes_of_programs(self):
        for seed in range(40):
            ground, book, programs = sample(seed)
            row = rules(book)
            codes = [code(book, program) for program in programs]
            for one, two in itertools.combinations(range(len(programs)), 2):
                self.assertIs(codes[one] == codes[two], alike(book, programs[one], programs[two]))
            for program, rows in zip(programs, codes):
                for number, state in enumerate(states(ground)):
                    own, end = table(ground, program)[number], run_code(ground, rows, state)
                    worth = outcome_worth(ground, row, own)
                    self.assertEqual(outcome_worth(ground, row, end), worth)
                    if worth == "all":
                        self.assertEqual(end[0], everything(ground, row))
                    elif own is not None:
                        self.assertLessEqual(key(ground, end[0]), key(ground, own[0]))
                for end, pair in zip(code_table(ground, rows), meter(ground, rows)):
                    self.assertEqual(None if pair is None else pair[1], None if end is None else price(ground, end[0]))

    def test_more_laws_keep_what_is_alike_and_make_nothing_dearer(self):
        cheaper = 0
        for seed in range(60):
            ground, book, programs = sample(seed)
            more = joined(book, book_of(ground, Chance(ground, seed + 500).facts(2, 4, 0.2)))
            for one, two in itertools.combinations(programs, 2):
                if alike(book, one, two):
                    self.assertIs(alike(more, one, two), True)
            for program in programs:
                before, after = [code_table(ground, code(laws, program)) for laws in (book, more)]
                for one, two in zip(before, after):
                    if one is not None:
                        self.assertLessEqual(key(ground, two[0]), key(ground, one[0]))
                        cheaper += one != two
        self.assertGreater(cheaper, 50)

    def test_roads_lead_to_the_code(self):
        for seed in range(40):
            ground, book, programs = sample(seed)
            for program in programs:
                road = optimised(book, program)
                self.assertEqual(road[-1][1], code(book, program))
                self.assertIs(road_right(book, program, road), True)

    def test_texts_are_read_back_as_they_were_told(self):
        for seed in range(60):
            ground, book, programs = sample(seed)
            self.assertEqual(read_ground(print_ground(ground)), ground)
            for program in programs:
                self.assertEqual(read_program(ground, print_program(ground, program)), program)
            for sides in book[1]:
                self.assertEqual(read_entry(ground, print_entry(ground, "w", sides)), ("w", sides))

    def test_desks(self):
        for seed in range(20):
            ground, book, programs = sample(seed)
            desk = Desk(ground)
            for index, program in enumerate(programs):
                desk.put("p" + str(index), program)
            self.assertEqual(desk.text(), desk_of(desk.text()).text())
            lots = [desk.classes()]
            for index, sides in enumerate(book[1]):
                expected = tuple(
                    pair for pair in itertools.combinations(desk.words(), 2)
                    if not desk.alike(*pair) and alike((ground, book[1][:index + 1]), *[desk.program(word) for word in pair]))
                self.assertEqual(desk.costs(sides), expected)
                desk.say("ann", "w" + str(index), sides)
                lots.append(desk.classes())
                self.assertLessEqual(len(lots[-1]), len(lots[-2]))
            again = desk_of(desk.text())
            self.assertEqual([again.classes(), again.rules(), again.text()], [lots[-1], rules(book), desk.text()])
            for _ in book[1]:
                self.assertEqual(desk.classes(), lots.pop())
                desk.undo("ann")
            self.assertEqual([desk.classes()], lots)


class Limits(unittest.TestCase):
    def test_the_least_ground(self):
        ground = read_ground("cells; deeds; exits done")
        self.assertEqual(nought(ground), ())
        self.assertEqual(code((ground, ()), ()), (("exit", "done"),))
        self.assertEqual(optimised((ground, ()), ())[-1], ("tabled", (("exit", "done"),)))
        self.assertEqual(Desk(ground).row("rules"), "empty")

    def test_the_greatest_ground(self):
        text = "cells a 2, b 2, c 4, d 4; deeds k 99, m 1, p 10; exits done, full, lost, gone"
        ground = read_ground(text)
        program = read_program(ground, "while a = 0 { k 9; m 8; if d < 3 { d := d + 1 } else { p; a := 1 } }; exit gone")
        self.assertEqual(len(table(ground, program)), 64)
        desk = Desk(ground)
        desk.put("p", program)
        desk.say("ann", "w", read_program_pair(ground, "k", "m 3"))
        self.assertEqual(desk.text()[0], text)
        self.assertEqual(refusal(desk.row, "classes"), None)
        self.assertEqual(code_table(ground, desk.code("p")), desk.cheapest("p"))


def read_program_pair(ground, one, two):
    """Return the law of two programs that are told as texts."""
    return read_program(ground, one), read_program(ground, two)


if __name__ == "__main__":
    unittest.main()
