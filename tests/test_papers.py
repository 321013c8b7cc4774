"""Points [32], [33] and [34], but for the judges by themselves: the papers that why returns."""

import time
import unittest

from lawsleft.alikes import alike, outcome_worth
from lawsleft.facts import facts
from lawsleft.kernel import no_right, yes_right
from lawsleft.papers import why
from lawsleft.paths import lemmas_right
from lawsleft.rules import rules
from lawsleft.tables import table
from tests.samples import (
    ALWAYS, BARE, C_IS_0, FOREVER, JUNK, LOGGING, SENDING, WIDE, Chance, book_of, doing, refusal, standing,
)

MERGING = book_of(LOGGING, (("like", (0, 1), (1, 1)),))
FULL = ("exit", "full")
GREAT = ((("s", 8), ("t", 8)), (("a", 1), ("b", 1), ("c", 2)), ("done",))


class Whys(unittest.TestCase):
    def told(self, book, one, two):
        """Return the paper, which is let by the judge of its word and refused by the other one."""
        word, paper = why(book, one, two)
        self.assertEqual(word, "yes" if alike(book, one, two) else "no")
        self.assertIs(yes_right(book, one, two, paper), word == "yes")
        self.assertIs(no_right(book, one, two, paper), word == "no")
        if word == "no":
            ones, twos = table(book[0], one), table(book[0], two)
            row = rules(book)
            worths = [[outcome_worth(book[0], row, end) for end in ends] for ends in (ones, twos)]
            first = [v == w for v, w in zip(*worths)].index(False)
            self.assertEqual(paper, (first, row))
        else:
            self.assertEqual(len(paper), 2)
            self.assertIs(lemmas_right(book[0], facts(book), paper[0]), True)
        return word, paper

    def test_the_examples(self):
        one, two = (("do", "l", 3), ("do", "f", 2)), (("do", "f", 2),)
        word, (lemmas, entries) = self.told(MERGING, one, two)
        self.assertEqual(word, "yes")
        self.assertEqual([entry[0] for entry in entries], ["like"])
        self.assertEqual(why(book=MERGING, one=two, two=(("do", "l", 1),)), ("no", (0, (((1, 1), (0, 1)),))))
        self.told(MERGING, two, (("do", "l", 1),))

    def test_equal_outcomes(self):
        for book in (MERGING, (LOGGING, ()), book_of(LOGGING, (("all", (0, 0)),))):
            for one, two in (((), ()), ((FOREVER,), (("do", "l", 1), FOREVER)), ((), (("if", ALWAYS, (), (FOREVER,)),))):
                self.assertEqual(self.told(book, one, two), ("yes", ((), ((),))))
        one, two = (("while", C_IS_0, ()),), (("if", C_IS_0, (("do", "send", 1), FOREVER), ()),)
        self.assertEqual(self.told((SENDING, ()), one, two), ("yes", ((), ((), ()))))
        self.assertEqual(self.told((BARE, ()), (), ()), ("yes", ((), ((),))))

    def test_entries_of_unlike_sorts_side_by_side(self):
        book = (SENDING, ((doing(SENDING, (3,)), doing(SENDING, (5,))),))
        one = (("if", C_IS_0, doing(SENDING, (9,)), (FULL,)),)
        two = (("if", C_IS_0, doing(SENDING, (3,)), (FULL,)),)
        word, (_, entries) = self.told(book, one, two)
        self.assertEqual((word, entries[0][0], entries[1]), ("yes", "like", ()))

    def test_everything(self):
        book = (SENDING, ((doing(SENDING, (4,)), (FOREVER,)), (doing(SENDING, (2,)), doing(SENDING, (3,)))))
        self.assertEqual(rules(book), (((2,), None),))
        for one, two in ((doing(SENDING, (2,)), doing(SENDING, (7,)) + (FULL,)), (doing(SENDING, (2,)), (FOREVER,)),
                         ((FOREVER,), doing(SENDING, (3,))), (doing(SENDING, (5,)), doing(SENDING, (6,)))):
            word, (_, entries) = self.told(book, one, two)
            self.assertEqual(word, "yes")
            if FOREVER in one:
                self.assertEqual(entries[0][1], ())
            if FOREVER in two:
                self.assertEqual(entries[0][2], ())
        for one, two in ((doing(SENDING, (1,)), doing(SENDING, (2,))), ((), (FOREVER,)), ((FULL,), ())):
            self.assertEqual(self.told(book, one, two), ("no", (0, (((2,), None),))))

    def test_never_beside_something(self):
        for book in ((SENDING, ()), (SENDING, ((doing(SENDING, (3,)), doing(SENDING, (5,))),))):
            self.assertEqual(self.told(book, (FOREVER,), ()), ("no", (0, rules(book))))
            two = (("while", ("not", C_IS_0), ()),)
            self.assertEqual(self.told(book, (), two), ("no", (1, rules(book))))

    def test_without_kinds(self):
        book = (BARE, (((), (FOREVER,)),))
        word, (_, entries) = self.told(book, (FOREVER,), ())
        self.assertEqual((word, entries[0][:2]), ("yes", ("all", ())))
        ground = ((("a", 3),), (), ("done", "full"))
        self.assertEqual(self.told((ground, ()), (), (FULL,)), ("no", (0, ())))
        self.assertEqual(self.told((ground, (((), (FULL,)),)), (), (FULL,))[0], "yes")

    def test_papers_as_chance_has_it(self):
        told = {"yes": 0, "no": 0}
        for seed in range(120):
            ground = (WIDE, SENDING, LOGGING, GREAT)[seed % 4]
            chance = Chance(ground, seed)
            book = book_of(ground, chance.facts(1 + seed % 6, 5, (0, 0.1, 0.4)[seed % 3]))
            if not book[1]:
                continue
            parts = (chance.body(2), chance.body(2), book[1][0][0], book[1][0][1], book[1][-1][0], book[1][-1][1])
            for first, second in ((0, 1), (2, 3), (4, 5), (0, 2)):
                one, two = standing(parts[first], Chance(ground, seed)), standing(parts[second], Chance(ground, seed))
                told[self.told(book, one, two)[0]] += 1
                told[self.told(book, parts[first] + one, parts[second] + one)[0]] += 1
        self.assertGreater(min(told.values()), 100)

    def test_likes_between_distant_counts(self):
        for seed in range(60):
            ground = ((), (("a", 2), ("b", 3), ("c", 1))[:1 + seed % 3], ("done",))
            chance = Chance(ground, seed)
            book = book_of(ground, chance.facts(2 + seed % 4, 4, 0.1))
            for _ in range(4):
                self.told(book, doing(ground, chance.count(60)), doing(ground, chance.count(60)))

    def test_great_counts_that_go_to_and_fro_have_short_paths(self):
        given = (("like", (0, 2, 0), (1, 0, 1)), ("like", (1, 1, 0), (0, 3, 0)))
        book = (GREAT, tuple((doing(GREAT, v), doing(GREAT, w)) for _, v, w in given))
        self.assertEqual(rules(book), (((0, 3, 0), (1, 1, 0)), ((1, 0, 1), (0, 2, 0))))
        further = (("set", "t", ("add", ("cell", "t"), ("num", 1))),
                   ("if", ("eq", ("cell", "t"), ("num", 0)), (("set", "s", ("add", ("cell", "s"), ("num", 1))),), ()))
        end = ("and", ("eq", ("cell", "s"), ("num", 7)), ("eq", ("cell", "t"), ("num", 7)))
        one, two = [(("do", "a", 1), ("do", "b", 1), ("while", ("not", end), (("do", "c", 9),) * many + further))
                    for many in (37, 36)]
        since = time.monotonic()
        word, (lemmas, entries) = self.told(book, one, two)
        self.assertEqual(word, "yes")
        self.assertLess(max(len(path) for entry in entries for path in entry[1:]), 100)
        self.assertLess(time.monotonic() - since, 10)

    def test_ten_facts_within_a_short_time(self):
        since = time.monotonic()
        for seed in range(24):
            ground = ((), (("a", 2), ("b", 3), ("c", 1))[:1 + seed % 3], ("done",))
            chance = Chance(ground, 300 + seed)
            book = book_of(ground, chance.facts(10, (8, 8, 5)[seed % 3], 0.02))
            one, two = book[1][0]
            self.assertEqual(self.told(book, one + doing(ground, (50, 60, 70)[:1 + seed % 3]),
                                       doing(ground, (50, 60, 70)[:1 + seed % 3]) + two)[0], "yes")
        self.assertLess(time.monotonic() - since, 60)

    def test_equal_calls_return_the_same_and_nothing_is_changed(self):
        chance = Chance(WIDE, 11)
        book = book_of(WIDE, chance.facts(4, 6, 0.2))
        arguments = (book, standing(book[1][0][0], Chance(WIDE, 1)), standing(book[1][0][1], Chance(WIDE, 1)))
        copy = eval(repr(arguments))
        self.assertEqual(why(*arguments), why(*copy))
        self.assertEqual(arguments, copy)

    def test_wrong_ones(self):
        bad = (("do", "send", 0),)
        for arguments, expected in (
            ((None, None, None), ("BadBook", -1)), (((((), (), ()), None), None, None), ("BadGround", (2, -1))),
            (((SENDING, None), None, None), ("BadBook", -1)), (((SENDING, (((), bad),)), bad, bad), ("BadLaw", 0)),
            (((SENDING, ((doing(SENDING, (41,)), ()),)), bad, bad), ("TooGreat", 0)),
            (((SENDING, ()), bad, None), ("BadProgram", (0,))), (((SENDING, ()), (), None), ("BadProgram", (-1,))),
            (((SENDING, ()), (), (FOREVER,) + bad), ("BadProgram", (1,))),
            (((SENDING, ()), (("if", ALWAYS, (FOREVER,) * 40, (FOREVER,) * 40),) * 2, None), ("TooMany", 121)),
        ):
            self.assertEqual(refusal(why, *arguments), expected)
        for thing in JUNK:
            self.assertIn(refusal(why, thing, (), ())[0], ("BadBook", "BadGround"))
            self.assertEqual(refusal(why, (SENDING, ()), thing, ())[0], "BadProgram")
            self.assertEqual(refusal(why, (SENDING, ()), (), thing)[0], "BadProgram")


if __name__ == "__main__":
    unittest.main()
