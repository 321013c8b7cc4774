"""Point [39]: books of one kind of deeds."""

import itertools
import unittest

from lawsleft.joins import same_books
from lawsleft.meets import meet_row
from lawsleft.normals import normal
from lawsleft.onekind import one_kind, one_meet
from lawsleft.rules import rules
from tests.samples import BARE, C_IS_0, FOREVER, JUNK, LOGGING, SENDING, WIDE, Chance, book_of, doing, refusal

ONE = ((), (("send", 7),), ("done",))


def of_one(*given):
    return book_of(ONE, given)


def like(v, w):
    return "like", (v,), (w,)


def row_of_form(form):
    """Return the row of a book of this form, as the document tells it."""
    if form is None:
        return ()
    return (((form[1],), None),) if form[0] == "all" else (((form[1] + form[2],), (form[1],)),)


class Forms(unittest.TestCase):
    def told(self, book, form):
        self.assertEqual(one_kind(book), form)
        self.assertEqual(rules(book), row_of_form(form))

    def test_the_examples(self):
        self.told(of_one(like(2, 5), like(3, 9)), ("pair", 2, 3))
        self.told(of_one(like(0, 3), ("all", (2,))), ("all", 0))

    def test_without_facts(self):
        for laws in ((), (((), ()),), (((FOREVER,), (FOREVER,)),), ((doing(ONE, (4,)), doing(ONE, (4,))),)):
            self.told((ONE, laws), None)
        self.assertIsNone(one_kind(book=(ONE, ())))

    def test_like_facts_alone(self):
        self.told(of_one(like(0, 1)), ("pair", 0, 1))
        self.told(of_one(like(4, 5)), ("pair", 4, 1))
        self.told(of_one(like(0, 40)), ("pair", 0, 40))
        self.told(of_one(like(6, 10), like(5, 11)), ("pair", 5, 2))
        self.told(of_one(like(1, 7), like(3, 12), like(2, 14)), ("pair", 1, 3))
        self.told(of_one(like(9, 15), like(8, 18), like(7, 22)), ("pair", 7, 1))

    def test_an_all_among_them(self):
        self.told(of_one(("all", (3,))), ("all", 3))
        self.told(of_one(("all", (0,))), ("all", 0))
        self.told(of_one(("all", (5,)), ("all", (3,))), ("all", 3))
        self.told(of_one(like(5, 7), ("all", (9,))), ("all", 5))
        self.told(of_one(like(9, 11), ("all", (3,))), ("all", 3))
        self.told(of_one(like(4, 6), like(2, 9), ("all", (40,)), like(3, 4)), ("all", 2))

    def test_cells_and_exits(self):
        sides = doing(SENDING, (3,)), (("if", C_IS_0, doing(SENDING, (5,)), doing(SENDING, (7,))),)
        self.told((SENDING, (sides,)), ("pair", 3, 2))
        self.told((SENDING, (sides, (doing(SENDING, (4,)) + (("exit", "full"),), doing(SENDING, (6,))))), ("all", 3))

    def test_as_chance_has_it(self):
        for seed in range(150):
            chance = Chance(ONE, seed)
            book = of_one(*chance.facts(seed % 5, 9, (0, 0, 0.3)[seed % 3]))
            self.told(book, one_kind(book))


class Meets(unittest.TestCase):
    def told(self, one, two, form):
        self.assertEqual(one_meet(one, two), form)
        self.assertEqual(one_meet(two, one), form)

    def test_the_examples(self):
        self.told(("all", 1), ("pair", 0, 2), ("pair", 1, 2))
        self.assertEqual(one_meet(one=("all", 1), two=("pair", 0, 2)), ("pair", 1, 2))
        self.assertEqual(meet_row(of_one(("all", (1,))), of_one(like(0, 2))), (((3,), (1,)),))
        self.assertEqual(meet_row(of_one(like(0, 2)), of_one(like(0, 3))), (((6,), (0,)),))

    def test_the_forms_two_by_two(self):
        for form in (None, ("all", 0), ("all", 4), ("pair", 0, 1), ("pair", 3, 4)):
            self.told(None, form, None)
            self.told(form, form, form)
        self.told(("all", 2), ("all", 5), ("all", 5))
        self.told(("all", 0), ("pair", 3, 4), ("pair", 3, 4))
        self.told(("all", 9), ("pair", 3, 4), ("pair", 9, 4))
        self.told(("pair", 3, 4), ("pair", 5, 6), ("pair", 5, 12))
        self.told(("pair", 2, 3), ("pair", 2, 7), ("pair", 2, 21))
        self.told(("pair", 0, 1), ("pair", 7, 9), ("pair", 7, 9))

    def test_the_form_of_what_holds_in_both(self):
        books = [of_one()] + [of_one(("all", (k,))) for k in (0, 1, 3)]
        books += [of_one(like(i, i + p)) for i in (0, 2, 3) for p in (1, 2, 3)]
        for one, two in itertools.product(books, books):
            form = one_meet(one_kind(one), one_kind(two))
            self.assertEqual(meet_row(one, two), row_of_form(form))
            rows = rules(one), rules(two)
            least = {}
            for n in range(24):
                ends = tuple(normal(ONE, row, (n,)) for row in rows)
                expected = None if ends == (None, None) else least.setdefault(ends, (n,))
                self.assertEqual(normal(ONE, row_of_form(form), (n,)), expected)

    def test_books_of_equal_forms_are_the_same(self):
        books = [of_one(*Chance(ONE, seed).facts(1 + seed % 3, 4, 0.2)) for seed in range(30)]
        for one, two in itertools.combinations(books, 2):
            self.assertIs(same_books(one, two), one_kind(one) == one_kind(two))


class Wrong(unittest.TestCase):
    def test_grounds_with_no_kind_and_with_several(self):
        self.assertEqual(refusal(one_kind, (BARE, ())), ("NotOne", 0))
        self.assertEqual(refusal(one_kind, (LOGGING, ())), ("NotOne", 2))
        self.assertEqual(refusal(one_kind, book_of(WIDE, (("all", (0, 1)),))), ("NotOne", 2))
        self.assertEqual(refusal(one_kind, (((), (("a", 1), ("b", 1), ("d", 1)), ("done",)), ())), ("NotOne", 3))

    def test_which_error_comes_first(self):
        self.assertEqual(refusal(one_kind, (((), (), ()), ())), ("BadGround", (2, -1)))
        self.assertEqual(refusal(one_kind, (LOGGING, None)), ("BadBook", -1))
        self.assertEqual(refusal(one_kind, (LOGGING, ((),))), ("BadLaw", 0))
        self.assertEqual(refusal(one_kind, (LOGGING, ((doing(LOGGING, (41, 0)), ()),))), ("TooGreat", 0))
        for thing in JUNK:
            self.assertIn(refusal(one_kind, thing)[0], ("BadBook", "BadGround"))

    def test_nothing_is_changed(self):
        book = of_one(like(2, 5), like(3, 9))
        copy = eval(repr(book))
        self.assertEqual(one_kind(book), one_kind(copy))
        self.assertEqual(book, copy)


if __name__ == "__main__":
    unittest.main()
