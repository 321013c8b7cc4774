"""Points [35] and [36], and what [0.3] says of more laws: books side by side, joined, and what a law costs."""

import unittest

from lawsleft.alikes import alike
from lawsleft.facts import facts, facts_of, is_book
from lawsleft.joins import costs, implies, joined, parting, same_books
from lawsleft.normals import everything, normal
from lawsleft.papers import why
from lawsleft.rules import rules
from tests.samples import (
    ALWAYS, BARE, C_IS_0, FOREVER, JUNK, LOGGING, SENDING, WIDE, Chance, book_of, doing, refusal, standing,
)

FULL = ("exit", "full")
ONE = ((), (("send", 1),), ("done",))
EVEN = ((), (("a", 1), ("b", 1)), ("done",))
FACT = ("like", (0, 1), (1, 1))


def send(many):
    return doing(SENDING, (many,))


def like(v, w):
    return send(v), send(w)


def holds(row, ground, fact):
    """Whether the two sides of a fact have one normal."""
    ends = [normal(ground, row, count) for count in fact[1:]]
    return ends[0] is None if fact[0] == "all" else ends[0] == ends[1]


class SideBySide(unittest.TestCase):
    def told(self, one, two, forward, backward, part):
        self.assertIs(implies(one, two), forward)
        self.assertIs(implies(two, one), backward)
        self.assertIs(same_books(one, two), forward and backward)
        self.assertIs(same_books(two, one), forward and backward)
        self.assertEqual(parting(one, two), part)
        self.assertEqual(rules(one) == rules(two), forward and backward)

    def test_the_examples_of_rows(self):
        base = book_of(LOGGING, (FACT,))
        self.told(base, book_of(LOGGING, (FACT, ("like", (0, 1), (0, 2)))), False, True, (1, 1))
        self.told(book_of(ONE, (("like", (2,), (5,)), ("like", (3,), (9,)))), book_of(ONE, (("like", (2,), (5,)),)),
                  True, True, None)
        self.told(book_of(ONE, (("like", (0,), (3,)), ("all", (2,)))), book_of(ONE, (("all", (0,)),)), True, True, None)
        given = (("like", (0, 1), (1, 0)), ("all", (0, 2)))
        self.told(book_of(EVEN, given), book_of(EVEN, given[:1] + (("all", (2, 0)),)), True, True, None)
        self.told(book_of(EVEN, given), book_of(EVEN, given[:1]), True, False, (0, 1))
        self.told(base, (LOGGING, ()), True, False, (0, 0))
        self.told((LOGGING, ()), base, False, True, (1, 0))

    def test_by_name(self):
        base = book_of(LOGGING, (FACT,))
        for call, expected in ((implies, True), (same_books, True), (parting, None), (joined, (LOGGING, base[1] * 2))):
            self.assertEqual(call(one=base, two=base), expected)

    def test_neither_implies_the_other(self):
        one, two = (SENDING, (like(1, 1), like(2, 4))), (SENDING, (like(2, 8), like(2, 5)))
        self.told(one, two, False, False, (1, 1))
        self.told(two, one, False, False, (1, 1))
        self.told(one, (SENDING, (like(2, 6), like(2, 10))), True, False, (0, 1))
        self.told((SENDING, (like(2, 6), like(2, 10))), one, False, True, (1, 1))

    def test_books_without_facts(self):
        for laws in ((), (like(1, 1),), (((FOREVER,), (FOREVER,)),)):
            self.told((SENDING, laws), (SENDING, ()), True, True, None)
            self.told((SENDING, laws), (SENDING, (like(1, 1), like(2, 3))), False, True, (1, 1))
        self.told((BARE, ()), (BARE, ()), True, True, None)
        self.told((BARE, (((), (FOREVER,)),)), (BARE, (((), ()),)), True, False, (0, 0))

    def test_everything(self):
        three, two = (SENDING, ((send(3), (FOREVER,)),)), (SENDING, ((send(2), (FOREVER,)),))
        self.told(two, three, True, False, (0, 0))
        self.told(three, two, False, True, (1, 0))
        self.told(three, (SENDING, (like(3, 4),)), True, False, (0, 0))
        self.told((SENDING, (like(1, 2), like(2, 3))), three, False, False, (1, 0))
        self.told(three, (SENDING, ((send(7), (FULL,) + send(3)),)), False, True, (1, 0))
        self.told(three, (SENDING, ((send(7), send(3) + (FULL,)),)), True, True, None)

    def test_a_law_with_several_facts_fails_by_one_of_them(self):
        two = (("if", C_IS_0, send(3), send(4)),)
        self.told((SENDING, (like(1, 3),)), (SENDING, ((send(1), send(1)), (send(1), two))), False, True, (1, 1))
        self.told((SENDING, (like(1, 2),)), (SENDING, ((send(1), two),)), True, True, None)

    def test_as_chance_has_it(self):
        kinds = {True: 0, False: 0}
        for seed in range(120):
            ground = (LOGGING, WIDE, ONE)[seed % 3]
            chance = Chance(ground, seed)
            one = book_of(ground, chance.facts(1 + seed % 3, 4, 0.2))
            two = book_of(ground, chance.facts(1 + seed % 2, 4, 0.2))
            whole = joined(one, two)
            for first, second in ((one, two), (whole, one), (whole, two), (one, joined(one, one)), (one, whole)):
                ends = []
                for book, other in ((first, second), (second, first)):
                    fails = [index for index, sides in enumerate(other[1])
                             if not all(holds(rules(book), ground, fact) for fact in facts_of(ground, sides))]
                    ends.append(fails)
                if ends[0]:
                    part = (1, ends[0][0])
                else:
                    part = (0, ends[1][0]) if ends[1] else None
                self.told(first, second, not ends[0], not ends[1], part)
                kinds[not ends[0]] += 1
            self.assertIs(implies(whole, one) and implies(whole, two), True)
        self.assertGreater(min(kinds.values()), 60)

    def test_what_is_alike_under_an_implied_book_is_alike_under_the_other_one(self):
        for seed in range(60):
            chance = Chance(WIDE, seed)
            one, two = book_of(WIDE, chance.facts(2, 4, 0.2)), book_of(WIDE, chance.facts(2, 4, 0.2))
            whole = joined(one, two)
            for book in (one, two):
                for sides in book[1]:
                    programs = [standing(side, Chance(WIDE, seed)) for side in sides]
                    self.assertIs(alike(whole, programs[0], programs[1]), True)
                    self.assertEqual(why(whole, programs[0], programs[1])[0], "yes")


class Joined(unittest.TestCase):
    def test_laws_of_the_first_then_of_the_second(self):
        one, two = (SENDING, (like(1, 2), like(3, 4))), (SENDING, (like(5, 6),))
        self.assertEqual(joined(one, two), (SENDING, (like(1, 2), like(3, 4), like(5, 6))))
        self.assertEqual(joined(two, one), (SENDING, (like(5, 6), like(1, 2), like(3, 4))))
        self.assertEqual(joined(one, (SENDING, ())), one)
        self.assertEqual(joined((SENDING, ()), (SENDING, ())), (SENDING, ()))

    def test_thirty_laws_and_more(self):
        laws = tuple(like(n, n + 1) for n in range(20))
        whole = joined((SENDING, laws), (SENDING, laws[:10]))
        self.assertEqual(whole, (SENDING, laws + laws[:10]))
        self.assertIs(is_book(whole), True)
        self.assertEqual(refusal(joined, (SENDING, laws), (SENDING, laws[:11])), ("TooMany", 31))
        self.assertEqual(refusal(joined, (SENDING, laws + laws[:10]), (SENDING, laws[:1])), ("TooMany", 31))
        self.assertEqual(refusal(joined, (SENDING, laws + laws[:10]), (SENDING, laws + laws[:10])), ("TooMany", 60))
        self.assertEqual(joined((SENDING, laws + laws[:10]), (SENDING, ())), whole)
        self.assertIs(same_books(whole, (SENDING, laws)), True)


class Wrong(unittest.TestCase):
    def test_which_error_comes_first(self):
        good, other = (SENDING, ()), (LOGGING, ())
        for call in (implies, same_books, parting, joined):
            self.assertEqual(refusal(call, None, None), ("BadBook", -1))
            self.assertEqual(refusal(call, (((), (), ()), ()), None), ("BadGround", (2, -1)))
            self.assertEqual(refusal(call, (SENDING, ((),)), None), ("BadLaw", 0))
            self.assertEqual(refusal(call, (SENDING, (like(1, 2), like(1, 41))), None), ("TooGreat", 1))
            self.assertEqual(refusal(call, good, None), ("BadBook", -1))
            self.assertEqual(refusal(call, good, (((), (), ()), ())), ("BadGround", (2, -1)))
            self.assertEqual(refusal(call, good, (LOGGING, None)), ("BadBook", -1))
            self.assertEqual(refusal(call, good, (LOGGING, ((),))), ("BadLaw", 0))
            self.assertEqual(refusal(call, good, (SENDING, (like(1, 41),))), ("TooGreat", 0))
            self.assertEqual(refusal(call, good, other), ("Unlike", 0))
            self.assertEqual(refusal(call, good, ((SENDING[0], SENDING[1], ("done",)), ())), ("Unlike", 0))
            for thing in JUNK:
                self.assertIn(refusal(call, thing, good)[0], ("BadBook", "BadGround"))
                self.assertIn(refusal(call, good, thing)[0], ("BadBook", "BadGround"))
        laws = (like(1, 1),) * 30
        self.assertEqual(refusal(joined, (SENDING, laws), (LOGGING, (((), ()),) * 30)), ("Unlike", 0))

    def test_nothing_is_changed(self):
        arguments = (book_of(LOGGING, (FACT,)), book_of(LOGGING, (FACT, ("all", (0, 2)))))
        copy = eval(repr(arguments))
        for call in (implies, same_books, parting, joined):
            self.assertEqual(call(*arguments), call(*copy))
        self.assertEqual(arguments, copy)


class Costs(unittest.TestCase):
    def test_pairs_that_would_become_alike(self):
        programs = tuple(send(n) for n in range(6))
        self.assertEqual(costs((SENDING, ()), like(1, 3), programs), ((1, 3), (1, 5), (2, 4), (3, 5)))
        self.assertEqual(costs((SENDING, ()), like(3, 1), programs[::-1]), ((0, 2), (0, 4), (1, 3), (2, 4)))
        self.assertEqual(costs(book=(SENDING, ()), sides=like(4, 5), programs=programs), ((4, 5),))
        self.assertEqual(costs((SENDING, ()), like(4, 4), programs), ())
        self.assertEqual(costs((SENDING, ()), like(1, 3), ()), ())
        self.assertEqual(costs((SENDING, ()), like(1, 3), (send(1),)), ())

    def test_pairs_that_are_alike_already(self):
        programs = (send(1), send(3), send(2), send(4), send(2), (("if", ALWAYS, send(1), ()),))
        book = (SENDING, (like(1, 3),))
        self.assertEqual(costs(book, like(1, 3), programs), ())
        self.assertEqual(costs(book, like(2, 4), programs), ())
        self.assertEqual(costs(book, like(1, 2), programs),
                         ((0, 2), (0, 3), (0, 4), (1, 2), (1, 3), (1, 4), (2, 5), (3, 5), (4, 5)))
        self.assertEqual(costs((SENDING, ()), like(2, 2), programs), ())

    def test_everything(self):
        programs = ((FOREVER,), send(2), send(3) + (FULL,), send(1), (("set", "c", ("num", 1)),) + send(2))
        self.assertEqual(costs((SENDING, ()), (send(2), (FOREVER,)), programs),
                         ((0, 1), (0, 2), (0, 4), (1, 2), (1, 4), (2, 4)))
        # What never ends is like what has no normal as soon as there is such a thing.
        book = (SENDING, ((send(4), (FOREVER,)),))
        self.assertEqual(costs(book, like(2, 3), programs), ((0, 1), (0, 2), (0, 4), (1, 2), (1, 4), (2, 4)))
        self.assertEqual(costs(book, like(3, 4), programs), ((0, 2),))

    def test_as_chance_has_it(self):
        many = 0
        for seed in range(60):
            chance = Chance(WIDE, seed)
            book = book_of(WIDE, chance.facts(2, 4, 0.1) or (("like", (0, 1), (1, 1)),))
            sides = book_of(WIDE, chance.facts(1, 2, 0.3) or (("all", (0, 0)),))[1][0]
            programs = tuple(chance.body(2) for _ in range(3))
            programs += tuple(standing(side, Chance(WIDE, seed)) for side in sides + book[1][0])
            then = (WIDE, book[1] + (sides,))
            expected = tuple((i, j) for i in range(7) for j in range(i + 1, 7)
                             if alike(then, programs[i], programs[j]) and not alike(book, programs[i], programs[j]))
            self.assertEqual(costs(book, sides, programs), expected)
            many += len(expected)
        self.assertGreater(many, 40)

    def test_wrong_ones(self):
        good, bad = (SENDING, ()), (("do", "send", 0),)
        for arguments, expected in (
            ((None, None, None), ("BadBook", -1)), (((((), (), ()), ()), None, None), ("BadGround", (2, -1))),
            (((SENDING, (((), bad),)), None, None), ("BadLaw", 0)),
            (((SENDING, (like(1, 41),)), None, None), ("TooGreat", 0)),
            ((good, None, None), ("BadLaw", 0)), (((SENDING, (like(1, 2),) * 3), ((), bad), None), ("BadLaw", 3)),
            (((SENDING, (like(1, 2),) * 30), None, None), ("BadBook", -1)),
            (((SENDING, (like(1, 2),) * 30), like(1, 2), None), ("BadBook", -1)),
            (((SENDING, (like(1, 2),) * 29), like(1, 41), None), ("TooGreat", 29)),
            ((good, ((), (), ()), None), ("BadLaw", 0)), ((good, like(1, 2), None), ("BadProgram", (-1,))),
            ((good, like(1, 2), [()]), ("BadProgram", (-1,))), ((good, like(1, 2), ((), None)), ("BadProgram", (-1,))),
            ((good, like(1, 2), ((), (FOREVER,) + bad, None)), ("BadProgram", (1,))),
            ((good, like(1, 2), ((("if", ALWAYS, (FOREVER,) * 40, (FOREVER,) * 40),) * 2, bad)), ("TooMany", 121)),
        ):
            self.assertEqual(refusal(costs, *arguments), expected)
        self.assertEqual(costs((SENDING, (like(1, 2),) * 29), like(3, 3), (send(0), send(1))), ())
        for thing in JUNK:
            self.assertIn(refusal(costs, thing, like(1, 2), ())[0], ("BadBook", "BadGround"))
            self.assertEqual(refusal(costs, good, thing, ()), ("BadLaw", 0))
            self.assertEqual(refusal(costs, good, like(1, 2), ((), thing))[0], "BadProgram")
            if thing == ((),) * 5000:
                self.assertEqual(costs(good, like(1, 2), thing), ())
            else:
                self.assertEqual(refusal(costs, good, like(1, 2), thing)[0], "BadProgram")

    def test_nothing_is_changed(self):
        arguments = ((SENDING, (like(1, 3),)), like(1, 2), (send(1), send(2), send(4)))
        copy = eval(repr(arguments))
        self.assertEqual(costs(*arguments), costs(*copy))
        self.assertEqual(arguments, copy)
        self.assertEqual(facts(arguments[0]), facts(copy[0]))
        self.assertIsNone(everything(SENDING, rules(arguments[0])))


if __name__ == "__main__":
    unittest.main()
