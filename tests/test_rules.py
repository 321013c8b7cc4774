"""Points [20], [22] and [26]: the row of a book, and where it comes from."""

import itertools
import time
import unittest

from lawsleft.facts import facts, is_book
from lawsleft.normals import everything, normal, row_right
from lawsleft.paths import derivation_right
from lawsleft.rules import derivation, rules
from lawsleft.tables import table
from tests.samples import BARE, FOREVER, JUNK, LOGGING, SENDING, WIDE, Chance, book_of, doing, refusal, standing

FACT = ("like", (0, 1), (1, 1))
ONE = ((), (("send", 1),), ("done",))
EVEN = ((), (("a", 1), ("b", 1)), ("done",))
GROUNDS = (
    ONE, EVEN, LOGGING, ((), (("a", 7), ("b", 4)), ("done",)), ((), (("a", 1), ("b", 1), ("c", 1)), ("done",)),
    ((), (("a", 3), ("b", 2), ("c", 9)), ("done",)), ((), (("a", 99), ("b", 99), ("c", 1)), ("done",)),
)


def likeness(ground, given, most):
    """Return for each count with parts up to most a mark that counts have in common if they are like within this box.

    Everything has the mark of None. What likeness leads beyond the box is not seen.
    """
    box = list(itertools.product(range(most + 1), repeat=len(ground[1]))) + [None]
    marks = {worth: worth for worth in box}

    def mark(worth):
        while marks[worth] != worth:
            worth = marks[worth]
        return worth

    for fact in given:
        for extra in box[:-1]:
            v = tuple(m + n for m, n in zip(fact[1], extra))
            w = tuple(m + n for m, n in zip(fact[2], extra)) if fact[0] == "like" else None
            if v in marks and w in marks:
                marks[mark(v)] = mark(w)
    return {worth: mark(worth) for worth in box}


class Examples(unittest.TestCase):
    def told(self, ground, given, row):
        book = book_of(ground, given)
        self.assertEqual(facts(book), given)
        self.assertEqual(rules(book), row)

    def test_the_examples(self):
        self.told(LOGGING, (FACT,), (((1, 1), (0, 1)),))
        self.assertEqual(normal(LOGGING, rules(book_of(LOGGING, (FACT,))), (3, 2)), (0, 2))
        self.told(LOGGING, (FACT, ("like", (0, 1), (0, 2))), (((1, 1), (0, 1)), ((0, 2), (0, 1))))
        self.told(ONE, (("like", (2,), (5,)), ("like", (3,), (9,))), (((5,), (2,)),))
        self.told(ONE, (("like", (0,), (3,)), ("all", (2,))), (((0,), None),))
        given = (("like", (0, 1), (1, 0)), ("all", (0, 2)))
        self.told(EVEN, given, (((1, 0), (0, 1)), ((0, 2), None)))
        self.assertEqual(everything(EVEN, rules(book_of(EVEN, given))), (0, 2))
        self.told(LOGGING, (), ())

    def test_everything_at_nought(self):
        self.told(ONE, (("all", (0,)),), (((0,), None),))
        self.told(LOGGING, (FACT, ("all", (0, 0)), ("all", (0, 2))), (((0, 0), None),))
        self.told(LOGGING, (("like", (0, 0), (2, 1)), ("all", (1, 1))), (((0, 0), None),))
        self.told(BARE, (("all", ()),), (((), None),))
        self.told(BARE, (), ())

    def test_kinds_with_equal_prices(self):
        self.told(EVEN, (("like", (0, 2), (1, 1)),), (((1, 1), (0, 2)),))
        self.told(EVEN, (("like", (0, 2), (2, 0)), ("like", (0, 3), (1, 2))), (((2, 0), (0, 2)), ((1, 2), (0, 3))))

    def test_cells_change_nothing(self):
        book = (SENDING, ((doing(SENDING, (5,)), doing(SENDING, (2,))), (doing(SENDING, (9,)), doing(SENDING, (3,)))))
        self.assertEqual(rules(book=book), (((5,), (2,)),))
        book = (SENDING, (((("set", "c", ("num", 1)), ("do", "send", 4)), (("set", "c", ("num", 0)),)),))
        self.assertEqual(rules(book), (((0,), None),))

    def test_greatest_parts(self):
        self.told(ONE, (("like", (0,), (40,)),), (((40,), (0,)),))
        self.told(LOGGING, (("like", (40, 0), (0, 40)), ("all", (40, 40))), (((80, 0), None), ((0, 40), (40, 0))))

    def test_rights_are_normals_at_last(self):
        # What takes the right of a rule further may come later than the rule.
        ground = ((), (("a", 1), ("b", 3), ("c", 9)), ("done",))
        self.told(ground, (("like", (0, 1, 0), (0, 0, 1)), ("like", (1, 0, 0), (0, 1, 0))),
                  (((0, 1, 0), (1, 0, 0)), ((0, 0, 1), (1, 0, 0))))
        self.told(ground, (("like", (0, 1, 0), (0, 0, 1)), ("all", (0, 1, 0))),
                  (((0, 1, 0), None), ((0, 0, 1), None)))


class RowsAsChanceHasThem(unittest.TestCase):
    def books(self, many):
        for seed in range(many):
            ground = GROUNDS[seed % len(GROUNDS)]
            most = (8, 8, 5)[len(ground[1]) - 1]
            chance = Chance(ground, seed)
            yield chance, chance.facts(1 + seed % 10, most if seed % 3 else 3, (0, 0, 0.1, 0.4)[seed % 4])

    def test_the_row_and_its_derivation_are_right(self):
        for chance, given in self.books(280):
            book = book_of(chance.ground, given)
            self.assertEqual(facts(book), given)
            row = rules(book)
            self.assertIs(row_right(chance.ground, given, row), True)
            self.assertIs(derivation_right(chance.ground, given, row, derivation(book)), True)

    def test_the_facts_in_another_order_doubled_and_turned_about_have_the_same_row(self):
        for chance, given in self.books(70):
            ground, laws = book_of(chance.ground, given)
            row = rules((ground, laws))
            self.assertEqual(rules((ground, laws[::-1])), row)
            self.assertEqual(rules((ground, laws + laws)), row)
            self.assertEqual(rules((ground, tuple(sides[::-1] for sides in laws))), row)
            if laws:
                one, two = laws[0]
                more = tuple((one + doing(ground, chance.count(3)),) * 2 for _ in range(2)) + ((two, one),)
                self.assertEqual(rules((ground, more + laws)), row)

    def test_books_that_say_no_more_have_the_same_row(self):
        for chance, given in self.books(70):
            ground, laws = book_of(chance.ground, given)
            row = rules((ground, laws))
            more = chance.count(2)
            further = []
            for one, two in laws:
                if FOREVER in two:
                    further.append((doing(ground, more) + one, (FOREVER,)))
                else:
                    further.append((one + doing(ground, more), doing(ground, more) + two))
            self.assertEqual(rules((ground, tuple(further) + laws)), row)

    def test_likeness_within_a_box(self):
        for seed in range(60):
            ground = GROUNDS[seed % 4]
            chance = Chance(ground, 500 + seed)
            given = chance.facts(1 + seed % 3, 3, (0, 0.3)[seed % 2])
            row = rules(book_of(ground, given))
            marks = likeness(ground, given, 60 if len(ground[1]) == 1 else 24)
            small = list(itertools.product(range(5), repeat=len(ground[1])))
            for v, w in itertools.product(small, small):
                one = normal(ground, row, v) == normal(ground, row, w)
                self.assertEqual(one, marks[v] == marks[w], (given, v, w))
            for v in small:
                self.assertEqual(normal(ground, row, v) is None, marks[v] == marks[None])
                if normal(ground, row, v) is not None:
                    like = [w for w in marks if w is not None and marks[w] == marks[v]]
                    self.assertEqual(normal(ground, row, v), min(like, key=chance.key))

    def test_ten_facts_within_a_short_time(self):
        since = time.monotonic()
        for seed, ground in enumerate(GROUNDS * 6):
            given = Chance(ground, 900 + seed).facts(10, (8, 8, 5)[len(ground[1]) - 1], 0)
            derivation(book_of(ground, given))
        self.assertLess(time.monotonic() - since, 30)

    def test_great_counts_by_rows_of_books(self):
        since = time.monotonic()
        for seed, ground in enumerate(GROUNDS * 3):
            chance = Chance(ground, 700 + seed)
            row = rules(book_of(ground, chance.facts(2, 5, 0)))
            great = tuple(10 ** 9 - 7 if len(ground[1]) == 1 else 10000 - n for n in range(len(ground[1])))
            found = normal(ground, row, great)
            self.assertEqual(normal(ground, row, found), found)
            self.assertLessEqual(chance.key(found), chance.key(great))
        self.assertLess(time.monotonic() - since, 60)


class WhatABookMeans(unittest.TestCase):
    def test_the_sides_of_a_law_are_worth_the_same_wherever_they_stand(self):
        ends = {"like": 0, "all": 0, "never": 0}
        for seed in range(400):
            chance = Chance(WIDE, seed)
            sides = (chance.body(2), chance.body(2))
            if not is_book((WIDE, (sides,))):
                continue
            row = rules((WIDE, (sides,)))
            one, two = [table(WIDE, standing(side, Chance(WIDE, seed + 5000))) for side in sides]
            for v, w in zip(one, two):
                worths = [end and (normal(WIDE, row, end[0]), end[1:]) for end in (v, w)]
                if v is None and w is None:
                    ends["never"] += 1
                elif v is None or w is None or worths[0][0] is None:
                    ends["all"] += 1
                    self.assertEqual([worth[0] for worth in worths if worth], [None] * (2 - (v is None) - (w is None)))
                else:
                    ends["like"] += v != w
                    self.assertEqual(worths[0], worths[1])
        self.assertGreater(min(ends.values()), 20, ends)


class DerivationsOfRows(unittest.TestCase):
    def test_the_example(self):
        told = derivation(book_of(LOGGING, (FACT,)))
        self.assertIs(derivation_right(LOGGING, (FACT,), (((1, 1), (0, 1)),), told), True)

    def test_without_rules(self):
        self.assertIs(derivation_right(LOGGING, (), (), derivation(book=(LOGGING, ()))), True)
        self.assertIs(derivation_right(BARE, (), (), derivation((BARE, ()))), True)

    def test_to_everything(self):
        for ground, given in ((ONE, (("like", (0,), (3,)), ("all", (2,)))), (BARE, (("all", ()),)),
                              (EVEN, (("like", (0, 1), (1, 0)), ("all", (0, 2)))),
                              (LOGGING, (("like", (0, 0), (2, 1)), ("all", (1, 1))))):
            book = book_of(ground, given)
            self.assertIs(derivation_right(ground, given, rules(book), derivation(book)), True)

    def test_equal_calls_return_the_same_and_nothing_is_changed(self):
        chance = Chance(GROUNDS[5], 3)
        book = book_of(GROUNDS[5], chance.facts(6, 5, 0.1))
        copy = eval(repr(book))
        self.assertEqual(derivation(book), derivation(copy))
        self.assertEqual(rules(book), rules(copy))
        self.assertEqual(book, copy)


class Wrong(unittest.TestCase):
    def test_books(self):
        for call in (rules, derivation):
            for thing in JUNK:
                if not isinstance(thing, tuple) or len(thing) != 2:
                    self.assertEqual(refusal(call, thing), ("BadBook", -1))
            self.assertEqual(refusal(call, (((), (), ()), None)), ("BadGround", (2, -1)))
            self.assertEqual(refusal(call, (LOGGING, None)), ("BadBook", -1))
            self.assertEqual(refusal(call, (LOGGING, (((), ()),) * 31)), ("BadBook", -1))
            self.assertEqual(refusal(call, (LOGGING, (((), ()), ((),)))), ("BadLaw", 1))
            self.assertEqual(refusal(call, (LOGGING, (((), ()), (doing(LOGGING, (41, 0)), ())))), ("TooGreat", 1))


if __name__ == "__main__":
    unittest.main()
