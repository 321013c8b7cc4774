"""Points [11] and [13]."""

import unittest

from lawsleft.facts import facts, facts_of, is_book, made_book
from lawsleft.programs import is_program
from tests.samples import BARE, C_IS_0, FOREVER, JUNK, LOGGING, SENDING, Chance, WIDE, plain_outcome, refusal
from lawsleft.grounds import states

FULL = ("exit", "full")
TO_1 = ("set", "c", ("num", 1))
TO_0 = ("set", "c", ("num", 0))


def send(many):
    """Return a program that sends so often."""
    return (("do", "send", 9),) * (many // 9) + ((("do", "send", many % 9),) if many % 9 else ())


class FactsOfALaw(unittest.TestCase):
    def told(self, one, two, *expected):
        self.assertEqual(facts_of(SENDING, (one, two)), expected)
        self.assertEqual(facts((SENDING, ((one, two),))), expected)

    def test_the_examples(self):
        self.told(send(2), send(1), ("like", (1,), (2,)))
        self.told((TO_1,), (TO_0,), ("all", (0,)))
        self.told(send(1) + (FULL,), send(2), ("all", (1,)), ("all", (2,)))
        self.told(send(3), (FOREVER,), ("all", (3,)))

    def test_by_name(self):
        self.assertEqual(facts_of(ground=SENDING, sides=(send(1), send(2))), (("like", (1,), (2,)),))
        self.assertEqual(facts(book=(SENDING, ())), ())
        self.assertEqual(made_book(thing=(SENDING, ())), (SENDING, ()))
        self.assertIs(is_book(thing=(SENDING, ())), True)

    def test_the_lesser_key_stands_first(self):
        self.told(send(1), send(2), ("like", (1,), (2,)))
        # Of equal prices the lesser tuple is less; a greater tuple may have the lesser price.
        kinds = ((), (("l", 1), ("f", 1), ("m", 3)), ("done",))
        for one, two, v, w in ((("l", 1), ("f", 1), (0, 1, 0), (1, 0, 0)), (("m", 1), ("l", 3), (0, 0, 1), (3, 0, 0)),
                               (("m", 1), ("l", 2), (2, 0, 0), (0, 0, 1))):
            sides = ((("do",) + one,), (("do",) + two,))
            self.assertEqual(facts_of(kinds, sides), (("like", v, w),))
            self.assertEqual(facts_of(kinds, sides[::-1]), (("like", v, w),))

    def test_no_facts(self):
        self.told((), ())
        self.told((FOREVER,), send(1) + (FOREVER,))
        self.told(send(2), send(1) + send(1))
        self.assertEqual(facts_of(BARE, ((), ())), ())

    def test_sides_that_end_in_unlike_states_or_by_unlike_exits_or_never(self):
        self.told(send(2) + (TO_1,), send(1), ("all", (2,)), ("all", (1,)), ("like", (1,), (2,)))
        self.told(send(2) + (FULL,), (), ("all", (2,)), ("all", (0,)))
        self.told(send(2) + (FULL,), send(2), ("all", (2,)))
        self.told((FOREVER,), send(4), ("all", (4,)))
        self.told((FOREVER,), send(4) + (FULL,), ("all", (4,)))
        self.told((("while", C_IS_0, ()), ("do", "send", 1)), (("if", C_IS_0, send(3), send(2)),),
                  ("all", (3,)), ("like", (1,), (2,)))
        self.assertEqual(facts_of(BARE, ((), (FOREVER,))), (("all", ()),))

    def test_each_one_once_where_it_comes_first(self):
        one = (("if", C_IS_0, send(2), send(2)),)
        self.told(one, send(1), ("like", (1,), (2,)))
        three = ((("c", 3),), (("send", 1),), ("done", "full"))
        sides = ((("if", C_IS_0, send(2), (("if", ("eq", ("cell", "c"), ("num", 1)), send(5), send(2)),)),), send(3))
        self.assertEqual(facts_of(three, sides), (("like", (2,), (3,)), ("like", (3,), (5,))))

    def test_counts_of_any_size(self):
        self.assertEqual(facts_of(SENDING, (send(300), send(41))), (("like", (41,), (300,)),))

    def test_facts_as_chance_has_them(self):
        for seed in range(150):
            chance = Chance(WIDE, seed)
            sides = (chance.body(3), chance.body(3))
            expected = []
            for state in states(WIDE):
                ends = [plain_outcome(WIDE, side, state) for side in sides]
                counts = [end[0] for end in ends if end is not None]
                if len(counts) == 2 and ends[0][1:] == ends[1][1:]:
                    if counts[0] != counts[1]:
                        expected.append(("like",) + tuple(sorted(counts, key=chance.key)))
                else:
                    expected.extend(("all", count) for count in counts)
            self.assertEqual(facts_of(WIDE, sides), tuple(dict.fromkeys(expected)))

    def test_wrong_laws(self):
        self.assertEqual(refusal(facts_of, None, None), ("BadGround", -1))
        self.assertEqual(refusal(facts_of, ((), (), ()), None), ("BadGround", (2, -1)))
        for sides in JUNK + ((), ((),), ((), (), ()), ((), None), (None, ()), ((("do", "log", 1),), ()), ((), (FULL, 3)),
                             [(), ()], ((), (("while", C_IS_0, send(360)),) * 3)):
            self.assertEqual(refusal(facts_of, SENDING, sides), ("BadLaw", 0))


class Books(unittest.TestCase):
    def granted(self, thing):
        self.assertIs(made_book(thing), thing)
        self.assertIs(is_book(thing), True)

    def refused(self, thing, *what):
        self.assertEqual(refusal(made_book, thing), what)
        self.assertEqual(refusal(facts, thing), what)
        self.assertIs(is_book(thing), False)

    def test_ordinary_books(self):
        self.granted((SENDING, ()))
        self.granted((SENDING, ((send(2), send(1)), ((TO_1,), (TO_0,)))))
        self.granted((BARE, (((), ()),)))

    def test_facts_of_all_laws_in_their_order(self):
        laws = ((send(2), send(1)), ((), ()), ((TO_1,), ()), (send(1), send(2)), (send(4), send(3)), ((), (TO_1,)))
        self.assertEqual(facts((SENDING, laws)), (("like", (1,), (2,)), ("all", (0,)), ("like", (3,), (4,))))
        self.assertEqual(facts((SENDING, laws[::-1])), (("all", (0,)), ("like", (3,), (4,)), ("like", (1,), (2,))))

    def test_how_many_laws(self):
        laws = tuple((send(number), ()) for number in range(1, 31))
        self.granted((SENDING, laws))
        self.assertEqual(len(facts((SENDING, laws))), 30)
        self.refused((SENDING, laws + (((), ()),)), "BadBook", -1)
        self.refused((SENDING, laws + (None,)), "BadBook", -1)

    def test_how_great_parts_may_be(self):
        self.granted((SENDING, ((send(40), ()),)))
        self.refused((SENDING, ((send(41), ()),)), "TooGreat", 0)
        self.refused((SENDING, (((), ()), (send(40), ()), (send(41), send(42)), (send(99), ()))), "TooGreat", 2)
        # What tells no fact, or another part of a count, is not asked.
        self.granted((SENDING, ((send(50), send(50)), (send(50) + (FOREVER,), (FOREVER,)))))
        self.refused((SENDING, ((send(41) + (FOREVER,), ()), (send(41), (FOREVER,)))), "TooGreat", 1)
        self.refused((SENDING, ((send(41) + (FULL,), ()),)), "TooGreat", 0)
        many = (("do", "f", 9),) * 4 + (("do", "l", 9),) * 4 + (("do", "l", 4),)
        self.granted((LOGGING, ((many, ()),)))
        self.refused((LOGGING, ((many + (("do", "f", 5),), ()),)), "TooGreat", 0)
        self.refused((LOGGING, ((many + (("do", "l", 1),), ()),)), "TooGreat", 0)

    def test_which_error_comes_first(self):
        for thing in (None, 3, "book", (), (SENDING,), (SENDING, (), ()), [SENDING, ()], (None,)):
            self.refused(thing, "BadBook", -1)
        self.refused((((), (), ()), None), "BadGround", (2, -1))
        self.refused((None, None), "BadGround", -1)
        self.refused((SENDING, None), "BadBook", -1)
        self.refused((SENDING, "laws"), "BadBook", -1)
        self.refused((SENDING, [((), ())]), "BadBook", -1)
        self.refused((SENDING, (None,) * 31), "BadBook", -1)
        self.refused((SENDING, (((), ()), ((), ()), ((),), None)), "BadLaw", 2)
        self.refused((SENDING, ((send(41), ()), None)), "BadLaw", 1)
        self.refused((SENDING, ((), ((), ()))), "BadLaw", 0)
        self.refused((SENDING, (((), ()), ((), (("do", "log", 1),)))), "BadLaw", 1)
        self.refused((SENDING, (((), ()), ((("while", C_IS_0, send(360)),) * 3, ()))), "BadLaw", 1)

    def test_the_judge_over_any_values(self):
        self.assertIs(is_program(SENDING, send(360)), True)
        for thing in JUNK:
            for book in (thing, (thing, ()), (SENDING, (thing,)), (SENDING, ((thing, ()),)), (SENDING, (((), thing),)),
                         (thing, thing), (SENDING, (((), ()), ((), (thing,))))):
                self.assertIs(is_book(book), False)
            if not isinstance(thing, tuple) or thing:
                self.assertIs(is_book((SENDING, thing)), False)

    def test_nothing_handed_in_is_changed_and_equal_calls_return_the_same(self):
        book = (SENDING, ((send(2), send(1)), ((TO_1,), (FULL,))))
        copy = eval(repr(book))
        self.assertEqual(facts(book), facts(copy))
        self.assertEqual(facts_of(SENDING, book[1][1]), facts_of(SENDING, copy[1][1]))
        self.assertEqual(book, copy)


if __name__ == "__main__":
    unittest.main()
