"""Points [50] to [54]: threading, rows that are reached, the optimiser's road and its judge."""

import time
import unittest

from lawsleft.alikes import outcome_worth
from lawsleft.codes import code, code_of, is_code, plain_code
from lawsleft.diagrams import diagram
from lawsleft.grounds import key, states
from lawsleft.machine import code_table
from lawsleft.normals import everything, normal
from lawsleft.optimiser import optimised, reached, road_right, threaded
from lawsleft.rules import rules
from lawsleft.tables import table
from tests.samples import (
    ALWAYS, BARE, C_IS_0, FOREVER, JUNK, LOGGING, SENDING, WIDE, Chance, bent, book_of, doing, machine_outcome,
    refusal, standing,
)

GREAT = ((("a", 8), ("b", 8)), (("k", 3), ("m", 1), ("p", 2)), ("done", "full", "lost"))
DONE = ("exit", "done")
FULL = ("exit", "full")
DEED = ("deed", "send", 1)
TO_1 = ("set", "c", ("num", 1))


def send(many):
    return doing(SENDING, (many,))


LESS = (SENDING, ((send(1), send(2)),))
ENDING = (SENDING, ((send(2), (FOREVER,)),))
FREE = (SENDING, ())


def by_hand(rows, number):
    """Return where a number of a row goes when it is threaded, by the words of [50]."""
    met = []
    while rows[number][0] == "jump":
        if number in met:
            return min(met[met.index(number):])
        met.append(number)
        number = rows[number][1]
    return number


def reached_by_hand(rows):
    """Return the numbers of the rows that can be come to, found by going through all rows again and again."""
    met = {0}
    while True:
        more = set()
        for number in met:
            row = rows[number]
            if row[0] in ("set", "deed", "branch"):
                more.add(number + 1)
            if row[0] in ("branch", "jump"):
                more.add(row[-1])
            if row[0] == "switch":
                more.update(row[2])
        if more <= met:
            return sorted(met)
        met |= more


def judged_by_hand(book, program, road):
    """Judge what has the form of a road, by the words of [53]."""
    ground = book[0]
    if not isinstance(road, tuple) or any(not isinstance(step, tuple) or len(step) != 2 for step in road):
        return False
    words, codes = [step[0] for step in road], [step[1] for step in road]
    if words[:4] != ["plain", "threaded", "reached", "tabled"]:
        return False
    last = words[4:]
    if "ended" in last[:-1] or any(word not in ("cheaper", "ended") for word in last):
        return False
    if not all(is_code(ground, rows) for rows in codes) or codes[0] != plain_code(ground, program):
        return False
    ends = [tuple(machine_outcome(ground, rows, state) for state in states(ground)) for rows in codes]
    if len(set(ends[:4])) != 1:
        return False
    row = rules(book)
    for before, after in zip(ends[3:], ends[4:]):
        for one, two in zip(before, after):
            if outcome_worth(ground, row, one) != outcome_worth(ground, row, two):
                return False
            if one is not None and (two is None or key(ground, two[0]) > key(ground, one[0])):
                return False
    least = everything(ground, row)
    for number, end in enumerate(ends[-1]):
        own = end is not None and normal(ground, row, end[0]) == end[0]
        if not own and not (end is None and least is None) and not (least is not None and end == (least, number, 0)):
            return False
    return codes[-1] == code_of(ground, diagram(ground, ends[-1]))


class Threading(unittest.TestCase):
    def test_the_examples(self):
        self.assertEqual(threaded((("jump", 1), ("jump", 2), ("jump", 1))), (("jump", 1),) * 3)
        self.assertEqual(threaded(code=(("jump", 1), ("jump", 2), DONE)), (("jump", 2), ("jump", 2), DONE))

    def test_jumps_to_themselves_and_rings(self):
        self.assertEqual(threaded((("jump", 0),)), (("jump", 0),))
        self.assertEqual(threaded((("jump", 2), ("jump", 0), ("jump", 2))), (("jump", 2),) * 3)
        self.assertEqual(threaded((("jump", 3), ("jump", 3), ("jump", 1), ("jump", 2))), (("jump", 1),) * 4)
        self.assertEqual(threaded((("jump", 2), ("jump", 0), ("jump", 1))), (("jump", 0),) * 3)
        self.assertEqual(threaded((("jump", 3), DONE, ("jump", 1), ("jump", 4), ("jump", 3), ("jump", 2))),
                         (("jump", 3), DONE, ("jump", 1), ("jump", 3), ("jump", 3), ("jump", 1)))

    def test_branches_and_switches_that_go_to_jumps(self):
        self.assertEqual(threaded((("branch", C_IS_0, 1), ("jump", 2), ("jump", 3), DONE)),
                         (("branch", C_IS_0, 3), ("jump", 3), ("jump", 3), DONE))
        self.assertEqual(threaded((("switch", "c", (1, 3)), ("jump", 2), ("jump", 1), DEED, ("jump", 0))),
                         (("switch", "c", (1, 3)), ("jump", 1), ("jump", 1), DEED, ("jump", 0)))
        self.assertEqual(threaded((("switch", "c", (2, 1)), ("jump", 3), ("jump", 1), FULL)),
                         (("switch", "c", (3, 3)), ("jump", 3), ("jump", 3), FULL))

    def test_the_row_behind_is_not_exchanged(self):
        self.assertEqual(threaded((("branch", C_IS_0, 0), ("jump", 2), DONE)), (("branch", C_IS_0, 0), ("jump", 2), DONE))
        self.assertEqual(threaded((TO_1, ("jump", 2), ("jump", 0))), (TO_1, ("jump", 0), ("jump", 0)))
        self.assertEqual(threaded((DONE,)), (DONE,))

    def test_long_chains(self):
        rows = tuple(("jump", index + 1) for index in range(1999)) + (DONE,)
        self.assertEqual(threaded(rows), (("jump", 1999),) * 1999 + (DONE,))
        ring = tuple(("jump", (index + 1) % 2000) for index in range(2000))
        self.assertEqual(threaded(ring), (("jump", 0),) * 2000)
        back = tuple(("jump", max(index - 1, 5)) for index in range(2000))
        self.assertEqual(threaded(back), (("jump", 5),) * 2000)


class Reached(unittest.TestCase):
    def test_the_example(self):
        self.assertEqual(reached(code=(("jump", 2), FULL, ("jump", 2))), (("jump", 1), ("jump", 1)))

    def test_from_each_kind_of_row(self):
        self.assertEqual(reached((DONE, DEED, DONE)), (DONE,))
        self.assertEqual(reached((DEED, TO_1, FULL, DONE)), (DEED, TO_1, FULL))
        self.assertEqual(reached((("branch", C_IS_0, 3), DONE, DEED, FULL)), (("branch", C_IS_0, 2), DONE, FULL))
        self.assertEqual(reached((("switch", "c", (4, 2)), DONE, FULL, DEED, DONE)), (("switch", "c", (2, 1)), FULL, DONE))
        self.assertEqual(reached((("jump", 3), DONE, FULL, ("jump", 2))), (("jump", 2), FULL, ("jump", 1)))
        self.assertEqual(reached((("jump", 0), DONE)), (("jump", 0),))

    def test_rows_that_go_back(self):
        rows = (("jump", 4), DONE, DEED, ("jump", 4), ("branch", C_IS_0, 2), FULL)
        self.assertEqual(reached(rows), (("jump", 3), DEED, ("jump", 3), ("branch", C_IS_0, 1), FULL))

    def test_tests_that_cannot_hold_are_not_asked(self):
        rows = (("branch", ALWAYS, 2), DONE, FULL)
        self.assertEqual(reached(rows), rows)

    def test_codes_of_programs(self):
        fewer = 0
        for seed in range(150):
            ground = (WIDE, SENDING, GREAT)[seed % 3]
            program = Chance(ground, seed).body(5)
            plain = plain_code(ground, program)
            ahead = threaded(plain)
            self.assertEqual(len(ahead), len(plain))
            for old, new in zip(plain, ahead):
                if old[0] in ("branch", "jump"):
                    self.assertEqual(new, old[:-1] + (by_hand(plain, old[-1]),))
                else:
                    self.assertEqual(new, old)
            kept = reached(ahead)
            numbers = reached_by_hand(ahead)
            self.assertEqual([row[0] for row in kept], [ahead[number][0] for number in numbers])
            for row, number in zip(kept, numbers):
                if row[0] in ("branch", "jump"):
                    self.assertEqual(numbers[row[-1]], ahead[number][-1])
                else:
                    self.assertEqual(row, ahead[number])
            fewer += len(kept) < len(plain)
            for rows in (plain, ahead, kept):
                self.assertIs(is_code(ground, rows), True)
                self.assertEqual(code_table(ground, rows), table(ground, program))
        self.assertGreater(fewer, 50)

    def test_codes_under_books(self):
        for seed in range(60):
            chance = Chance(WIDE, seed)
            rows = code(book_of(WIDE, chance.facts(2, 3, 0.1)), chance.body(4))
            self.assertEqual(threaded(rows), rows)
            self.assertEqual(reached(rows), rows)


class Roads(unittest.TestCase):
    def told(self, book, program, *expected):
        self.assertEqual(optimised(book, program), expected)
        self.assertIs(road_right(book, program, expected), True)
        self.assertEqual(expected[-1][1], code(book, program))

    def first(self, rows):
        return tuple((word, rows) for word in ("plain", "threaded", "reached", "tabled"))

    def test_the_example(self):
        road = self.first((("deed", "send", 2), DONE)) + (("cheaper", (DEED, DONE)),)
        self.told(LESS, (("do", "send", 2),), *road)
        self.assertEqual(optimised(book=LESS, program=(("do", "send", 2),)), road)
        self.assertIs(road_right(book=LESS, program=(("do", "send", 2),), road=road), True)

    def test_roads_without_further_steps(self):
        self.told(FREE, (), *self.first((DONE,)))
        self.told(LESS, (), *self.first((DONE,)))
        self.told(LESS, send(1), *self.first((DEED, DONE)))
        self.told((BARE, ()), (), *self.first((DONE,)))

    def test_each_of_the_first_four(self):
        program = (("catch", (("if", C_IS_0, (("do", "send", 1), FULL), ()),), (("full", (TO_1,)),)),)
        plain = (("branch", C_IS_0, 4), DEED, ("jump", 5), ("jump", 4), ("jump", 7), TO_1, ("jump", 7), DONE)
        ahead = (("branch", C_IS_0, 7), DEED, ("jump", 5), ("jump", 7), ("jump", 7), TO_1, ("jump", 7), DONE)
        kept = (("branch", C_IS_0, 5), DEED, ("jump", 3), TO_1, ("jump", 5), DONE)
        last = (("switch", "c", (1, 4)), DEED, TO_1, DONE, DONE)
        self.told(FREE, program, ("plain", plain), ("threaded", ahead), ("reached", kept), ("tabled", last))

    def test_counts_go_one_by_one_rising_by_their_keys(self):
        program = (("if", C_IS_0, send(3), send(2)),)
        road = optimised(LESS, program)
        self.assertEqual([word for word, _ in road[4:]], ["cheaper", "cheaper"])
        self.assertEqual(road[3][1], (("switch", "c", (1, 3)), ("deed", "send", 3), DONE, ("deed", "send", 2), DONE))
        self.assertEqual(road[4][1], (("switch", "c", (1, 3)), ("deed", "send", 3), DONE, DEED, DONE))
        self.assertEqual(road[5][1], (DEED, DONE))
        priced = ((("c", 2),), (("l", 1), ("f", 5)), ("done",))
        book = book_of(priced, (("like", (0, 0), (2, 0)), ("like", (0, 0), (0, 1))))
        road = optimised(book, (("if", C_IS_0, (("do", "f", 1),), (("do", "l", 6),)),))
        self.assertEqual(road[4][1], (("switch", "c", (1, 2)), DONE, ("deed", "l", 6), DONE))
        self.assertEqual(road[5], ("cheaper", (DONE,)))
        self.assertEqual(len(road), 6)

    def test_counts_whose_worth_is_everything(self):
        program = (("if", C_IS_0, send(3) + (FULL,), send(2) + (("set", "c", ("num", 0)),)),)
        road = optimised(ENDING, program)
        to_0 = ("set", "c", ("num", 0))
        self.assertEqual(road[3][1], (("switch", "c", (1, 3)), ("deed", "send", 3), FULL, ("deed", "send", 2), to_0, DONE))
        self.assertEqual(road[4], ("cheaper", (("switch", "c", (1, 3)), ("deed", "send", 3), FULL, ("deed", "send", 2), DONE)))
        self.assertEqual(road[5], ("cheaper", (("deed", "send", 2), DONE)))
        self.assertEqual(len(road), 6)

    def test_a_step_whose_code_is_the_one_ahead_stands_all_the_same(self):
        same = (("deed", "send", 2), DONE)
        self.told(ENDING, send(2), *(self.first(same) + (("cheaper", same),)))

    def test_ended_where_the_book_has_an_everything(self):
        code_of_book = (("deed", "send", 2), DONE)
        first = (("branch", ALWAYS, 2), ("jump", 0), DONE)
        self.told(ENDING, (FOREVER,), ("plain", first), ("threaded", first), ("reached", first), ("tabled", (("jump", 0),)),
                  ("ended", code_of_book))
        road = optimised(ENDING, (("do", "send", 3), ("while", C_IS_0, ())))
        self.assertEqual([word for word, _ in road[3:]], ["tabled", "cheaper", "ended"])
        self.assertEqual(road[4][1], (("switch", "c", (1, 2)), ("jump", 1), ("deed", "send", 2), DONE))
        self.assertEqual(road[5][1], code_of_book)

    def test_no_ended_without_an_everything_or_a_run_that_never_ends(self):
        first = (("branch", ALWAYS, 2), ("jump", 0), DONE)
        self.told(LESS, (FOREVER,), ("plain", first), ("threaded", first), ("reached", first), ("tabled", (("jump", 0),)))
        self.assertEqual([word for word, _ in optimised(ENDING, send(1))], ["plain", "threaded", "reached", "tabled"])

    def test_roads_as_chance_has_them(self):
        told = {"cheaper": 0, "ended": 0}
        for seed in range(200):
            ground = (WIDE, SENDING, LOGGING, GREAT)[seed % 4]
            chance = Chance(ground, seed)
            book = book_of(ground, chance.facts(3, 4, (0, 0.2, 0.6)[seed % 3]))
            program = chance.body(4) if seed % 2 else standing(book[1][0][0] if book[1] else (), chance)
            road = optimised(book, program)
            row, own = rules(book), table(ground, program)
            least = everything(ground, row)
            others = {end[0] for end in own if end is not None and normal(ground, row, end[0]) != end[0]}
            ended = least is not None and None in own
            self.assertEqual([word for word, _ in road],
                             ["plain", "threaded", "reached", "tabled"] + ["cheaper"] * len(others) + ["ended"] * ended)
            codes = [rows for _, rows in road]
            self.assertEqual(codes[0], plain_code(ground, program))
            self.assertEqual(codes[1], threaded(codes[0]))
            self.assertEqual(codes[2], reached(codes[1]))
            self.assertEqual(codes[3], code_of(ground, diagram(ground, own)))
            done = set()
            for count, rows in zip(sorted(others, key=lambda v: key(ground, v)), codes[4:]):
                done.add(count)
                ends = [end if end is None or end[0] not in done else self.cheap(ground, row, end, number)
                        for number, end in enumerate(own)]
                self.assertEqual(rows, code_of(ground, diagram(ground, tuple(ends))))
            self.assertEqual(codes[-1], code(book, program))
            self.assertIs(road_right(book, program, road), True)
            told["cheaper"] += len(others)
            told["ended"] += ended
        self.assertGreater(told["cheaper"], 60)
        self.assertGreater(told["ended"], 10)

    def cheap(self, ground, row, end, number):
        worth = normal(ground, row, end[0])
        return (everything(ground, row), number, 0) if worth is None else (worth,) + end[1:]

    def test_many_counts_within_a_short_time(self):
        since = time.monotonic()
        loops = tuple(
            ("while", ("less", ("cell", name), ("num", 7)), deeds + (("set", name, ("add", ("cell", name), ("num", 1))),))
            for name, deeds in (("a", (("do", "k", 1),)), ("b", (("do", "m", 9), ("do", "m", 1)))))
        book = book_of(GREAT, (("all", (0, 0, 0)),))
        road = optimised(book, loops)
        self.assertEqual(len(road), 4 + 64)
        self.assertIs(road_right(book, loops, road), True)
        self.assertLess(time.monotonic() - since, 10)


class JudgeOfRoads(unittest.TestCase):
    def refused(self, book, program, road):
        self.assertIs(road_right(book, program, road), False)

    def setUp(self):
        self.program = (("if", C_IS_0, send(3) + (FULL,), send(1)), ("while", C_IS_0, ()))
        self.book = (SENDING, ((send(1), send(2)), (send(5) + (FULL,), send(5))))
        self.road = optimised(ENDING, self.program)

    def test_words(self):
        self.assertEqual([word for word, _ in self.road], ["plain", "threaded", "reached", "tabled", "cheaper"])
        for index in range(len(self.road)):
            for word in ("plain", "threaded", "reached", "tabled", "cheaper", "ended", "Plain", "", None, 0, ("plain",)):
                if word != self.road[index][0] and (index, word) != (4, "ended"):
                    self.refused(ENDING, self.program,
                                 self.road[:index] + ((word, self.road[index][1]),) + self.road[index + 1:])

    def test_the_words_of_the_last_steps_are_not_asked_what_they_do(self):
        last = self.road[4][1]
        self.assertIs(road_right(ENDING, self.program, self.road[:4] + (("ended", last),)), True)
        self.assertIs(road_right(ENDING, self.program, self.road + (("cheaper", last),) * 3), True)
        self.assertIs(road_right(ENDING, self.program, self.road + (("ended", last),)), True)
        self.refused(ENDING, self.program, self.road + (("ended", last),) * 2)
        self.refused(ENDING, self.program, self.road + (("ended", last), ("cheaper", last)))

    def test_any_codes_of_the_same_table_may_stand_between(self):
        others = [(word, (("jump", 1),) + tuple(self.shifted(row) for row in rows)) for word, rows in self.road[1:4]]
        self.assertIs(road_right(ENDING, self.program, self.road[:1] + tuple(others) + self.road[4:]), True)
        plain = ("plain", others[0][1])
        self.refused(ENDING, self.program, (plain,) + self.road[1:])

    def shifted(self, row):
        if row[0] == "switch":
            return row[:2] + (tuple(number + 1 for number in row[2]),)
        return row[:-1] + (row[-1] + 1,) if row[0] in ("branch", "jump") else row

    def test_steps_left_out_put_in_and_exchanged(self):
        for index in range(len(self.road)):
            self.refused(ENDING, self.program, self.road[:index] + self.road[index + 1:])
            if index < 4:
                self.refused(ENDING, self.program, self.road[:index] + self.road[index:index + 1] + self.road[index:])
            for other in range(index):
                steps = list(self.road)
                steps[index], steps[other] = steps[other], steps[index]
                self.refused(ENDING, self.program, tuple(steps))
        self.refused(ENDING, self.program, ())

    def test_keys_that_rise_and_worths_that_change(self):
        first = tuple((word, (DEED, DONE)) for word in ("plain", "threaded", "reached", "tabled"))
        one = ("do", "send", 1)
        self.assertIs(road_right(LESS, (one,), first), True)
        self.refused(LESS, (one,), first + (("cheaper", (("deed", "send", 2), DONE)), ("cheaper", (DEED, DONE))))
        self.refused(LESS, (one,), first + (("cheaper", (DONE,)),))
        self.refused(LESS, (one,), first + (("cheaper", (DEED, FULL)),))
        self.refused(LESS, (one,), first + (("cheaper", (DEED, TO_1, DONE)),))
        self.refused(LESS, (one,), first + (("cheaper", (("jump", 0),)),))

    def test_none_is_dearer_than_all_others(self):
        road = optimised(ENDING, (FOREVER,))
        self.assertIs(road_right(ENDING, (FOREVER,), road), True)
        self.assertIs(road_right(ENDING, (FOREVER,), road[:4] + (("cheaper", (("deed", "send", 9), FULL)),) + road[4:]), True)
        self.assertIs(road_right(ENDING, (FOREVER,), road[:4] + (("cheaper", (("jump", 0),)),) + road[4:]), True)
        self.refused(ENDING, (FOREVER,), road[:4] + (("cheaper", (("deed", "send", 1), DONE)),) + road[4:])
        dear = optimised(ENDING, send(3))
        self.refused(ENDING, send(3), dear[:4] + (("cheaper", (("jump", 0),)),) + dear[4:])
        self.refused(LESS, (FOREVER,), road)

    def test_very_great_counts_within_a_short_time(self):
        since = time.monotonic()
        ground = ((), (("l", 1), ("f", 5)), ("done",))
        great = (("deed", "l", 10 ** 900), ("deed", "f", 10 ** 900), DONE)
        for seed in range(40):
            book = book_of(ground, Chance(ground, seed).facts(4, 4, 0.3))
            road = optimised(book, (FOREVER,))
            bent_road = road[:4] + (("cheaper", great),) + road[4:]
            worth = outcome_worth(ground, rules(book), ((10 ** 900, 10 ** 900), 0, 0))
            self.assertIs(road_right(book, (FOREVER,), bent_road), worth == "all")
        self.assertLess(time.monotonic() - since, 10)

    def test_what_ends_the_road(self):
        first = optimised(LESS, send(2))[:4]
        self.refused(LESS, send(2), first)
        self.refused(LESS, send(2), first + (("cheaper", (("jump", 1), DEED, DONE)),))
        self.refused(LESS, send(2), first + (("cheaper", (("switch", "c", (1, 1)), DEED, DONE)),))
        self.assertIs(road_right(LESS, send(2), first + (("cheaper", (("switch", "c", (1, 1)), DEED, DONE)),
                                                         ("cheaper", (DEED, DONE)))), True)
        same = optimised(ENDING, send(2))
        self.assertIs(road_right(ENDING, send(2), same[:4]), True)
        moving = optimised(ENDING, send(2) + (TO_1,))
        self.assertIs(road_right(ENDING, send(2) + (TO_1,), moving), True)
        self.refused(ENDING, send(2) + (TO_1,), moving[:4])
        leaving = optimised(ENDING, send(2) + (FULL,))
        self.refused(ENDING, send(2) + (FULL,), leaving[:4])

    def test_bent_roads(self):
        told = {True: 0, False: 0}
        for book, program in ((LESS, send(2)), (ENDING, (("if", C_IS_0, send(3) + (FULL,), (FOREVER,)),)),
                              (self.book, self.program), (FREE, (("while", C_IS_0, (TO_1,)),))):
            road = optimised(book, program)
            self.assertIs(judged_by_hand(book, program, road), True)
            for other in bent(road):
                expected = judged_by_hand(book, program, other)
                self.assertIs(road_right(book, program, other), expected)
                told[expected] += 1
        self.assertGreater(told[False], 800)

    def test_roads_of_other_programs_and_books(self):
        programs = [Chance(SENDING, seed).body(3) for seed in range(12)]
        books = (FREE, LESS, ENDING)
        roads = [(book, program, optimised(book, program)) for book in books for program in programs]
        for book in books:
            for program in programs:
                for _, _, road in roads:
                    self.assertIs(road_right(book, program, road), judged_by_hand(book, program, road))

    def test_things_that_are_none(self):
        for thing in JUNK + ((), (("plain", (DONE,)),), (("plain",),), ((DONE,),)):
            self.refused(LESS, send(2), thing)
            self.refused(LESS, send(2), ((thing, (DONE,)),) * 4)
            self.refused(LESS, send(2), (("plain", thing), ("threaded", thing), ("reached", thing), ("tabled", thing)))
        road = optimised(LESS, send(2))
        for thing in JUNK:
            self.refused(thing, send(2), road)
            self.refused(LESS, thing, road)
            self.refused((SENDING, thing), send(2), road)
            self.refused((thing, LESS[1]), send(2), road)
        self.refused((SENDING, ((send(41), ()),)), send(2), road)
        self.refused((WIDE, ()), (), road)


class Wrong(unittest.TestCase):
    def test_books_then_programs(self):
        bad = (("do", "send", 0),)
        for arguments, expected in (
            ((None, None), ("BadBook", -1)), (((((), (), ()), ()), None), ("BadGround", (2, -1))),
            (((SENDING, None), None), ("BadBook", -1)), (((SENDING, (((), bad),)), None), ("BadLaw", 0)),
            (((SENDING, ((send(41), ()),)), None), ("TooGreat", 0)), (((SENDING, ()), None), ("BadProgram", (-1,))),
            (((SENDING, ()), (FOREVER,) + bad), ("BadProgram", (1,))),
            (((SENDING, ()), (("if", ALWAYS, (FOREVER,) * 40, (FOREVER,) * 40),) * 2), ("TooMany", 121)),
        ):
            self.assertEqual(refusal(optimised, *arguments), expected)
        for thing in JUNK:
            self.assertIn(refusal(optimised, thing, ())[0], ("BadBook", "BadGround"))
            self.assertEqual(refusal(optimised, FREE, thing)[0], "BadProgram")

    def test_nothing_is_changed_and_equal_calls_tell_the_same(self):
        chance = Chance(WIDE, 3)
        book, program = book_of(WIDE, chance.facts(3, 4, 0.2)), chance.body(4)
        copies = eval(repr(book)), eval(repr(program))
        road = optimised(book, program)
        self.assertEqual(road, optimised(*copies))
        copy = eval(repr(road))
        self.assertIs(road_right(book, program, road), True)
        self.assertEqual(threaded(road[0][1]), threaded(copy[0][1]))
        self.assertEqual(reached(road[0][1]), reached(copy[0][1]))
        self.assertEqual((book, program, road), copies + (copy,))


if __name__ == "__main__":
    unittest.main()
