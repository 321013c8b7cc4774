"""Points [32] and [33]: the judges of papers."""

import unittest

from lawsleft.facts import facts
from lawsleft.grounds import many_states
from lawsleft.kernel import no_right, yes_right
from lawsleft.papers import why
from lawsleft.tables import table
from tests.samples import (
    BARE, C_IS_0, FOREVER, JUNK, LOGGING, SENDING, WIDE, Chance, bent, book_of, doing, nested, standing,
)

FACT = ("like", (0, 1), (1, 1))
MERGING = book_of(LOGGING, (FACT,))
THREE, TWO, LOG = (("do", "l", 3), ("do", "f", 2)), (("do", "f", 2),), (("do", "l", 1),)
LEMMA = ((3, 2), (0, 2), ((0, -1, 3),))
FULL = ("exit", "full")
ROW = (((1, 1), (0, 1)),)


def send(many):
    return doing(SENDING, (many,))


# Everything is 2 and more; 0 and 1 are like nothing else.
ENDING = (SENDING, ((send(2), (FOREVER,)), (send(3), send(5))))
BY_C = (("if", C_IS_0, send(9), (FULL,)),)


class Walk:
    """A second opinion of papers, step by step; it raises some error where a paper is wrong."""

    def __init__(self, given):
        self.sides = [fact[1:] if fact[0] == "like" else (fact[1], None) for fact in given]

    def number(self, thing):
        if type(thing) is not int:
            raise TypeError
        return thing

    def step(self, worth, number, way, times):
        first, second = self.sides[self.number(number)]
        if number < 0 or self.number(way) not in (1, -1) or not 1 <= self.number(times) <= 10 ** 9:
            raise ValueError
        if times > 1 and second is None:
            raise ValueError
        for _ in range(min(times, 10 ** 4)):
            taken, put = (first, second) if way == 1 else (second, first)
            rest = tuple(n - m for n, m in zip(worth, taken))
            if min(rest, default=0) < 0:
                raise ValueError
            worth = None if put is None else tuple(n + m for n, m in zip(rest, put))
        return worth

    def leads(self, start, goal, path):
        if type(path) is not tuple:
            raise TypeError
        worth = start
        for number, way, times in path:
            worth = self.step(worth, number, way, times)
        if worth != goal:
            raise ValueError

    def entry(self, one, two, entry):
        if type(entry) is not tuple:
            raise TypeError
        if entry == () or one == two:
            if entry != () or one != two:
                raise ValueError
        elif len(entry) == 2 and entry[0] == "like":
            if one[1:] != two[1:]:
                raise ValueError
            self.leads(one[0], two[0], entry[1])
        elif len(entry) == 3 and entry[0] == "all":
            for end, path in ((one, entry[1]), (two, entry[2])):
                if end is not None:
                    self.leads(end[0], None, path)
                elif path != () or None not in [second for _, second in self.sides]:
                    raise ValueError
        else:
            raise ValueError

    def count(self, kinds, thing):
        if type(thing) is not tuple or len(thing) != kinds or min([self.number(n) for n in thing], default=0) < 0:
            raise ValueError

    def paper(self, book, one, two, paper):
        """Whether a paper is right."""
        try:
            lemmas, entries = paper
            if type(paper) is not tuple or type(lemmas) is not tuple or len(entries) != many_states(book[0]):
                return False
            for start, goal, path in lemmas:
                self.count(len(book[0][1]), start)
                if goal is not None:
                    self.count(len(book[0][1]), goal)
                self.leads(start, goal, path)
                self.sides.append((start, goal))
            for first, second, entry in zip(table(book[0], one), table(book[0], two), entries):
                self.entry(first, second, entry)
        except (TypeError, ValueError, IndexError):
            return False
        return True


class Yes(unittest.TestCase):
    def told(self, lemmas, entries, expected, one=THREE, two=TWO, book=MERGING):
        self.assertIs(yes_right(book, one, two, (lemmas, entries)), expected)

    def test_the_example(self):
        self.assertIs(yes_right(book=MERGING, one=THREE, two=TWO, paper=((), (("like", ((0, -1, 3),)),))), True)
        self.told((LEMMA,), (("like", ((0, -1, 3),)),), True)
        self.told((LEMMA,) * 3, (("like", ((2, 1, 1),)),), True)
        self.told((), (("like", ((0, -1, 2), (0, -1, 1))),), True)
        self.told((), (("like", ((0, -1, 1),) * 3),), True)
        self.told((), (("like", ((0, 1, 3),)),), True, TWO, THREE)

    def test_bent_examples(self):
        self.told((), (("like", ((0, -1, 2),)),), False)
        self.told((), (("like", ((0, -1, 4),)),), False)
        self.told((), (("like", ((0, 1, 3),)),), False)
        self.told((), (("like", ((1, -1, 3),)),), False)
        self.told((), (("like", ()),), False)
        self.told((), (("like", ((0, -1, 1),) * 2),), False)
        self.told((), (("like", ((0, -1, 3),), ()),), False)
        self.told((), (("all", ((0, -1, 3),)),), False)
        self.told((), (("all", ((0, -1, 3),), ()),), False)
        self.told((), ((),), False)
        self.told((), (), False)
        self.told((), (("like", ((0, -1, 3),)),) * 2, False)
        self.told((), (("like", ((0, -1, 3),)),), False, TWO, THREE)
        self.told((), (("like", ((0, -1, 3),)),), False, THREE, LOG)
        self.told((), (("like", ((0, -1, 3),)),), False, book=(LOGGING, ()))

    def test_lemmas_that_lean_on_themselves_or_on_later_ones(self):
        self.told((((3, 2), (0, 2), ((1, 1, 1),)),), (("like", ((1, 1, 1),)),), False)
        self.told((((3, 2), (0, 2), ((2, 1, 1),)), LEMMA), (("like", ((1, 1, 1),)),), False)
        self.told((LEMMA, ((3, 2), (0, 2), ((1, 1, 1),))), (("like", ((2, 1, 1),)),), True)
        self.told((((3, 2), (0, 1), ((0, -1, 3),)),), (("like", ((0, -1, 3),)),), False)
        self.told((((3, 2), (0, 1), ()),), (("like", ((0, -1, 3),)),), False)

    def test_equal_outcomes_have_the_entry_of_nothing_alone(self):
        for one, two in ((THREE, THREE), (THREE, THREE[::-1]), ((FOREVER,), (FOREVER,)), ((FOREVER,), LOG + (FOREVER,))):
            self.told((), ((),), True, one, two)
            self.told((LEMMA,), ((),), True, one, two)
            self.told((), ((),), True, one, two, (LOGGING, ()))
            self.told((), (("like", ()),), False, one, two)
            self.told((), (("all", (), ()),), False, one, two)
            self.told((), (("like", ((0, -1, 1), (0, 1, 1))),), False, one, two)
        book = book_of(LOGGING, (("all", (0, 0)),))
        self.told((), (("all", ((0, 1, 1),), ((0, 1, 1),)),), False, THREE, THREE, book)
        self.told((), (("all", (), ()),), False, (FOREVER,), (FOREVER,), book)
        self.told((), ((),), True, (FOREVER,), (FOREVER,), book)

    def test_like_and_all_where_both_are_right(self):
        one, two, give = send(3), send(5), ("all", ((0, 1, 1),), ((0, 1, 1),))
        self.told((), (("like", ((1, 1, 1),)),) * 2, True, one, two, ENDING)
        self.told((), (give,) * 2, True, one, two, ENDING)
        self.told((), (give, ("like", ((1, 1, 1),))), True, one, two, ENDING)
        self.told((), (("all", ((1, 1, 1), (0, 1, 1)), ((1, -1, 1), (0, 1, 1))),) * 2, True, one, two, ENDING)
        self.told((), (("all", ((0, 1, 2),), ((0, 1, 1),)),) * 2, False, one, two, ENDING)
        self.told((), (("all", ((0, 1, 1), (1, 1, 1)), ((0, 1, 1),)),) * 2, False, one, two, ENDING)
        self.told((), (("all", ((1, 1, 1),), ((0, 1, 1),)),) * 2, False, one, two, ENDING)
        self.told((), (("all", ((0, 1, 1),), ()),) * 2, False, one, two, ENDING)
        self.told((), (("all", (), ((0, 1, 1),)),) * 2, False, one, two, ENDING)

    def test_unlike_ends_are_alike_by_everything_alone(self):
        one, two, give = send(3) + (FULL,), send(5), ("all", ((0, 1, 1),), ((0, 1, 1),))
        self.told((), (give,) * 2, True, one, two, ENDING)
        self.told((), (("like", ((1, 1, 1),)),) * 2, False, one, two, ENDING)
        self.told((), (("like", ()),) * 2, False, send(3), send(3) + (FULL,), ENDING)
        self.told((), ((),) * 2, False, send(3), send(3) + (FULL,), ENDING)
        moved = (("set", "c", ("num", 0)),) + send(5)
        self.told((), (("like", ((1, 1, 1),)), give), True, send(3), moved, ENDING)
        self.told((), (give, ("like", ((1, 1, 1),))), False, send(3), moved, ENDING)

    def test_never_beside_something(self):
        give = ((0, 1, 1),)
        self.told((), (("all", (), give),) * 2, True, (FOREVER,), send(2), ENDING)
        self.told((), (("all", give, ()),) * 2, True, send(2), (FOREVER,), ENDING)
        self.told((), (("all", give, give),) * 2, False, send(2), (FOREVER,), ENDING)
        self.told((), (("all", (), ()),) * 2, False, send(2), (FOREVER,), ENDING)
        self.told((), (("all", give),) * 2, False, send(2), (FOREVER,), ENDING)
        self.told((), (("like", give),) * 2, False, send(2), (FOREVER,), ENDING)
        self.told((), (("like", ()),) * 2, False, (FOREVER,), send(2), ENDING)
        self.told((), ((),) * 2, False, (FOREVER,), send(2), ENDING)
        self.told((), (("all", (), give),) * 2, False, (FOREVER,), send(2), (SENDING, ENDING[1][1:]))
        lemma = ((2,), None, ())
        self.told((lemma,), (("all", (), give),) * 2, False, (FOREVER,), send(2), (SENDING, ()))
        book = (BARE, (((), (FOREVER,)),))
        self.told((), (("all", (), ((0, 1, 1),)),), True, (FOREVER,), (), book)
        self.told((), (("all", (), ()),), False, (FOREVER,), (), book)

    def test_lemmas_to_none(self):
        lemma = ((3,), None, ((1, 1, 1), (0, 1, 1)))
        self.told((lemma,), (("all", ((2, 1, 1),), ((2, 1, 1),)),) * 2, True, send(3), send(5), ENDING)
        self.told((lemma,), (("all", ((2, 1, 2),), ((2, 1, 1),)),) * 2, False, send(3), send(5), ENDING)
        self.told((lemma,), (("all", ((2, -1, 1),), ((2, 1, 1),)),) * 2, False, send(3), send(5), ENDING)

    def test_each_state_has_its_entry(self):
        two = (("if", C_IS_0, send(3), (FULL,)),)
        likes = ("like", ((1, -1, 3),))
        self.told((), (likes, ()), True, BY_C, two, ENDING)
        self.told((), ((), likes), False, BY_C, two, ENDING)
        self.told((), (likes, likes), False, BY_C, two, ENDING)
        self.told((), (likes,), False, BY_C, two, ENDING)
        self.told((), (likes, (), ()), False, BY_C, two, ENDING)

    def test_any_values(self):
        right = [MERGING, THREE, TWO, ((LEMMA,), (("like", ((1, 1, 1),)),))]
        self.assertIs(yes_right(*right), True)
        for thing in JUNK:
            for index in range(4):
                some = list(right)
                some[index] = thing
                self.assertIs(yes_right(*some), False)
            for lemmas, entries in ((thing, right[3][1]), ((LEMMA,), thing), ((LEMMA, thing), right[3][1]),
                                    ((LEMMA,), (thing,)), ((LEMMA,), (("like", thing),)),
                                    ((LEMMA,), ((thing, ((1, 1, 1),)),)), ((LEMMA,), (("like", (thing,)),)),
                                    ((LEMMA,), (("all", thing, thing),)), (((thing, (0, 2), ()),), right[3][1]),
                                    (((3, 2), thing, ((0, -1, 3),)), right[3][1])):
                self.told(lemmas, entries, False)
        for paper in ((), ((LEMMA,),), right[3] + ((),), [(LEMMA,), right[3][1]], nested(right[3], 40), right[3][::-1]):
            self.assertIs(yes_right(MERGING, THREE, TWO, paper), False)
        self.assertIs(yes_right((LOGGING, (((), ()),) * 31), (), (), ((), ((),))), False)
        self.assertIs(yes_right((LOGGING, ((doing(LOGGING, (41, 0)), ()),)), (), (), ((), ((),))), False)
        self.assertIs(yes_right((LOGGING, ()), (), (), ((), ((),))), True)

    def test_large_papers(self):
        many = (((0, 1, 1), (0, -1, 1)) * 1500)
        self.told((), (("like", many + ((0, -1, 3),)),), True)
        self.told((), (("like", many + ((0, -1, 2),)),), False)
        self.told(((LEMMA[0], LEMMA[1], ((0, -1, 3),)),) * 900, (("like", ((900, 1, 1),)),), True)
        self.told(((LEMMA[0], LEMMA[1], ((0, -1, 3),)),) * 900, (("like", ((901, 1, 1),)),), False)

    def test_bent_papers_by_a_second_opinion(self):
        told = {True: 0, False: 0}
        for seed in range(40):
            ground = (WIDE, SENDING, LOGGING)[seed % 3]
            chance = Chance(ground, seed)
            book = book_of(ground, chance.facts(1 + seed % 4, 4, (0, 0.2, 0.5)[seed % 3 - 1]))
            if not book[1]:
                continue
            one, two = [standing(side, Chance(ground, seed)) for side in book[1][0]]
            word, paper = why(book, one, two)
            self.assertEqual(word, "yes")
            for thing in [paper] + bent(paper):
                expected = Walk(facts(book)).paper(book, one, two, thing)
                self.assertIs(yes_right(book, one, two, thing), expected, (book, one, two, thing))
                told[expected] += 1
            self.assertIs(yes_right(book, one, two, paper), True)
        self.assertGreater(told[True], 30)
        self.assertGreater(told[False], 1000)


class No(unittest.TestCase):
    def test_the_example(self):
        self.assertIs(no_right(book=MERGING, one=TWO, two=LOG, paper=(0, ROW)), True)
        self.assertIs(no_right(MERGING, LOG, TWO, (0, ROW)), True)
        self.assertIs(no_right(MERGING, THREE, TWO, (0, ROW)), False)

    def test_rows_that_are_not_the_books_own(self):
        # By the first of these all logs are like none, by the second three flushes are everything.
        for row in ((((1, 0), (0, 0)),), (((1, 1), (0, 1)), ((0, 3), None)), (((0, 2), (0, 1)), ((1, 1), (0, 1)))):
            self.assertIs(no_right(MERGING, TWO, LOG, (0, tuple(sorted(row, key=self.left)))), True)
        self.assertIs(no_right(MERGING, TWO, LOG, (0, (((0, 0), None),))), False)
        self.assertIs(no_right(MERGING, LOG, LOG * 2, (0, ROW)), True)
        self.assertIs(no_right(MERGING, LOG, LOG * 2, (0, (((1, 0), (0, 0)),))), False)

    def left(self, rule):
        return rule[0][0] + 5 * rule[0][1]

    def test_rows_that_say_less_or_do_not_meet_or_are_not_reduced(self):
        for row in ((), (((2, 1), (0, 1)),), (((1, 1), (1, 0)),), (((1, 1), (0, 1)), ((2, 1), (0, 1))),
                    (((1, 0), (0, 0)), ((1, 1), (0, 1))), (((0, 1), (1, 0)), ((1, 1), (0, 1)))):
            self.assertIs(no_right(MERGING, TWO, LOG, (0, row)), False)
        self.assertIs(no_right((LOGGING, ()), TWO, LOG, (0, ())), True)
        self.assertIs(no_right((LOGGING, ()), TWO, TWO, (0, ())), False)

    def test_other_states(self):
        book = (SENDING, ((send(3), send(5)),))
        row = (((5,), (3,)),)
        two = (("if", C_IS_0, send(9), send(1)),)
        self.assertIs(no_right(book, BY_C, two, (1, row)), True)
        self.assertIs(no_right(book, BY_C, two, (0, row)), False)
        for number in (2, -1, True, None, "1", (1,), 10 ** 30):
            self.assertIs(no_right(book, BY_C, two, (number, row)), False)
        self.assertIs(no_right(book, (), send(1), (False, row)), False)
        self.assertIs(no_right(book, (), send(1), (0, row)), True)

    def test_never(self):
        for book, one, two, row, expected in (
            ((SENDING, ()), (FOREVER,), (), (), True), ((SENDING, ()), (FOREVER,), send(1) + (FOREVER,), (), False),
            (ENDING, (FOREVER,), send(2), (((2,), None),), False), (ENDING, (FOREVER,), send(1), (((2,), None),), True),
            (ENDING, send(3), send(2) + (FULL,), (((2,), None),), False),
            (ENDING, (FOREVER,), send(1), (((1,), None),), False), (ENDING, (FOREVER,), (), (((1,), None),), True),
            ((SENDING, ()), (FOREVER,), (), (((0,), None),), False), ((SENDING, ()), (), (FULL,), (((0,), None),), False),
            ((SENDING, ()), (FOREVER,), (), (((1,), None),), True),
        ):
            self.assertIs(no_right(book, one, two, (0, row)), expected)

    def test_any_values(self):
        right = [MERGING, TWO, LOG, (0, ROW)]
        for thing in JUNK:
            for index in range(4):
                some = list(right)
                some[index] = thing
                self.assertIs(no_right(*some), False)
            self.assertIs(no_right(MERGING, TWO, LOG, (thing, ROW)), thing == 0 and thing is not False)
            for row in (thing, ROW + (thing,), (thing,), (((1, 1), thing),), ((thing, (0, 1)),)):
                self.assertIs(no_right(MERGING, TWO, LOG, (0, row)), False)
        for paper in ((), (0,), (0, ROW, ROW), (ROW, 0), [0, ROW], nested((0, ROW), 40)):
            self.assertIs(no_right(MERGING, TWO, LOG, paper), False)

    def test_bent_rows_are_no_papers_that_alike_programs_are_not(self):
        many = 0
        for seed in range(40):
            ground = (WIDE, SENDING, LOGGING)[seed % 3]
            chance = Chance(ground, seed)
            book = book_of(ground, chance.facts(2, 4, 0.2) or chance.facts(9, 4, 0))
            one, two = [standing(side, Chance(ground, seed)) for side in book[1][0]]
            other = chance.body(3)
            word, paper = why(book, one, other)
            if word == "no":
                for thing in bent(paper):
                    if no_right(book, one, other, thing):
                        many += 1
                        self.assertIs(no_right(book, one, two, thing), False)
                        self.assertIs(no_right(book, two, one, thing), False)
        self.assertGreater(many, 20)

    def test_nothing_is_changed(self):
        arguments = (MERGING, TWO, LOG, (0, ROW))
        copy = eval(repr(arguments))
        self.assertIs(no_right(*arguments), True)
        self.assertIs(yes_right(*arguments), False)
        self.assertEqual(arguments, copy)


if __name__ == "__main__":
    unittest.main()
