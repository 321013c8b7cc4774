"""Points [20] to [23]."""

import time
import unittest

from lawsleft.normals import everything, normal, row_right
from lawsleft.rules import rules
from tests.samples import BARE, JUNK, LOGGING, SENDING, Chance, book_of, refusal

ONE = SENDING
THREE = ((), (("x", 2), ("y", 1), ("z", 1)), ("done",))
ALIKE = ((), (("x", 1), ("y", 1), ("z", 1)), ("done",))
EVEN = ((), (("a", 1), ("b", 1)), ("done",))
FLUSHED = (((1, 1), (0, 1)),)
# Prices of three kinds, and facts whose rules lead great counts to and fro many times.
TO_AND_FRO = (
    ((49, 91, 51), (("like", (2, 2, 1), (0, 3, 1)), ("like", (3, 2, 1), (2, 1, 3)), ("like", (1, 1, 1), (2, 1, 0)))),
    ((5, 3, 5), (("like", (5, 1, 0), (4, 3, 5)), ("like", (0, 1, 4), (1, 4, 1)), ("like", (1, 3, 1), (2, 3, 0)))),
    ((99, 21, 4), (("like", (0, 4, 5), (1, 4, 0)), ("like", (1, 0, 0), (2, 5, 0)), ("like", (2, 3, 5), (4, 0, 0)))),
    ((1, 1, 1), (("like", (5, 2, 0), (0, 4, 6)), ("like", (5, 0, 5), (4, 8, 0)), ("like", (6, 0, 7), (6, 7, 1)))),
)


class Normals(unittest.TestCase):
    def test_a_rule_leads_on_again_and_again(self):
        self.assertEqual(normal(LOGGING, FLUSHED, (3, 2)), (0, 2))
        self.assertEqual(normal(LOGGING, FLUSHED, (3, 0)), (3, 0))
        self.assertEqual(normal(LOGGING, FLUSHED, (0, 0)), (0, 0))
        row = FLUSHED + (((0, 2), (0, 1)),)
        self.assertEqual(normal(LOGGING, row, (3, 2)), (0, 1))
        self.assertEqual(normal(ground=LOGGING, row=row, v=(0, 7)), (0, 1))
        self.assertEqual([normal(ONE, (((5,), (2,)),), (n,)) for n in range(10)],
                         [(0,), (1,), (2,), (3,), (4,), (2,), (3,), (4,), (2,), (3,)])

    def test_a_rule_may_lead_a_part_up(self):
        # Two x make an x and two y: prices 4 and 4; three y make one z: 3 and 1.
        row = (((1, 0, 0), (0, 2, 0)), ((0, 3, 0), (0, 0, 1)))
        self.assertEqual(normal(THREE, row, (2, 0, 0)), (0, 1, 1))
        self.assertEqual(normal(THREE, row, (3, 1, 5)), (0, 1, 7))

    def test_to_everything(self):
        row = (((1, 0), (0, 1)), ((0, 2), None))
        self.assertIsNone(normal(EVEN, row, (1, 1)))
        self.assertIsNone(normal(EVEN, row, (0, 2)))
        self.assertEqual(normal(EVEN, row, (1, 0)), (0, 1))
        self.assertIsNone(normal(ONE, (((0,), None),), (0,)))
        self.assertIsNone(normal(BARE, (((), None),), ()))
        self.assertEqual(normal(BARE, (), ()), ())
        self.assertIsNone(normal(ONE, (((4,), None),), (10 ** 9,)))

    def test_no_rules(self):
        self.assertEqual(normal(LOGGING, (), (7, 8)), (7, 8))

    def test_each_way_of_a_row_whose_rules_do_not_meet_is_one_of_its_own(self):
        row = (((2,), (0,)), ((3,), (1,)))
        self.assertIn(normal(ONE, row, (3,)), ((1,),))
        row = (((1, 0), (0, 0)), ((1, 1), (0, 0)))
        self.assertIn(normal(EVEN, row, (1, 1)), ((0, 1), (0, 0)))

    def test_great_counts_quickly(self):
        since = time.monotonic()
        billion = 10 ** 9
        self.assertEqual(normal(ONE, (((5,), (2,)),), (billion,)), (2 + (billion - 2) % 3,))
        self.assertEqual(normal(ONE, (((1,), (0,)),), (billion,)), (0,))
        self.assertEqual(normal(ONE, (((2,), (0,)), ((3,), (2,)), ((999,), (0,))), (billion,)), (0,))
        self.assertEqual(normal(LOGGING, FLUSHED, (10000, 10000)), (0, 10000))
        self.assertEqual(normal(LOGGING, FLUSHED, (10000, 0)), (10000, 0))
        self.assertEqual(normal(EVEN, (((1, 0), (0, 1)),), (10000, 10000)), (0, 20000))
        row = (((1, 0, 0), (0, 2, 0)), ((0, 3, 0), (0, 0, 1)))
        self.assertEqual(normal(THREE, row, (10000, 10000, 10000)), (0, 0, 20000))
        # One x alone goes to and fro beside very many z.
        row = (((0, 1, 1), (1, 0, 0)), ((1, 0, 1), (0, 1, 0)))
        self.assertEqual(normal(ALIKE, row, (1, 0, 10000)), (1, 0, 0))
        self.assertEqual(normal(ALIKE, row, (1, 0, 9999)), (0, 1, 0))
        self.assertEqual(sum(normal(ALIKE, row, (10000, 9999, 10000))), 19999)
        self.assertLess(time.monotonic() - since, 10)


class Everything(unittest.TestCase):
    def test_it_is_the_first_left_whose_right_is_none(self):
        self.assertEqual(everything(EVEN, (((1, 0), (0, 1)), ((0, 2), None))), (0, 2))
        self.assertEqual(everything(ground=LOGGING, row=(((3, 0), None), ((0, 1), None))), (3, 0))
        self.assertEqual(everything(ONE, (((0,), None),)), (0,))
        self.assertEqual(everything(BARE, (((), None),)), ())

    def test_there_may_be_none(self):
        self.assertIsNone(everything(LOGGING, ()))
        self.assertIsNone(everything(LOGGING, FLUSHED))


class Rows(unittest.TestCase):
    def refused(self, ground, row, *what):
        self.assertEqual(refusal(everything, ground, row), what)
        self.assertEqual(refusal(normal, ground, row, None), what)
        self.assertIs(row_right(ground, (), row), False)

    def test_which_error_comes_first(self):
        self.refused(None, None, "BadGround", -1)
        self.refused(((), (), ()), None, "BadGround", (2, -1))
        self.assertEqual(refusal(normal, LOGGING, FLUSHED, (1,)), ("BadCount", (1,)))

    def test_what_is_no_tuple(self):
        for row in (None, True, 3, "row", [], {}):
            self.refused(LOGGING, row, "BadRow", -1)

    def test_what_is_no_rule(self):
        for rule in JUNK + ((), ((1, 1),), ((1, 1), (0, 1), ()), ((1,), None), (None, None), ((1, 1), (0,)),
                            ((1, 1), (0, 1, 0)), ((True, 1), (0, 1)), ((1, 1), (False, 1)), ((1, -1), None),
                            ((1, 1), (0, -1)), ((1, 1), True), ((1, 1), "all"), ([1, 1], (0, 1)), [(1, 1), (0, 1)]):
            self.refused(LOGGING, (rule,), "BadRow", 0)
            self.refused(LOGGING, FLUSHED + (((0, 2), None), rule, rule), "BadRow", 2)

    def test_rights_have_a_lesser_key_than_lefts(self):
        self.refused(LOGGING, (((1, 1), (1, 1)),), "BadRow", 0)
        self.refused(LOGGING, (((0, 1), (5, 0)),), "BadRow", 0)
        self.refused(LOGGING, (((0, 1), (6, 0)),), "BadRow", 0)
        self.refused(LOGGING, (((0, 0), (0, 0)),), "BadRow", 0)
        self.refused(EVEN, (((0, 1), (1, 0)),), "BadRow", 0)
        self.assertEqual(normal(LOGGING, (((5, 0), (0, 1)),), (5, 0)), (0, 1))
        self.assertEqual(normal(EVEN, (((1, 0), (0, 1)),), (1, 0)), (0, 1))

    def test_lefts_are_rising(self):
        one, two, three = ((1, 0), None), ((0, 1), None), ((0, 2), (0, 1))
        everything(LOGGING, (one, two, three))
        self.refused(LOGGING, (one, three, two), "BadRow", 2)
        self.refused(LOGGING, (two, one, three), "BadRow", 1)
        self.refused(LOGGING, (one, one), "BadRow", 1)
        self.refused(LOGGING, (one, two, ((0, 1), (0, 0))), "BadRow", 2)
        # Of equal prices the tuples are asked.
        everything(LOGGING, (((0, 1), None), ((5, 0), None)))
        self.refused(LOGGING, (((5, 0), None), ((0, 1), None)), "BadRow", 1)

    def test_an_element_is_asked_wholly_ahead_of_the_next_one(self):
        self.refused(LOGGING, (((0, 2), None), ((0, 1), None), None), "BadRow", 1)
        self.refused(LOGGING, (((0, 2), None), None, ((0, 1), None)), "BadRow", 1)

    def test_what_is_no_count(self):
        for v in ((), (1,), (1, 2, 3), (1, -1), (True, 1), None, "11", 3, [1, 1], (1, (1,))):
            self.assertEqual(refusal(normal, LOGGING, FLUSHED, v), ("BadCount", v))


class RowsRight(unittest.TestCase):
    like = ("like", (0, 1), (1, 1))

    def test_the_row_of_facts_is_right(self):
        self.assertIs(row_right(LOGGING, (self.like,), FLUSHED), True)
        self.assertIs(row_right(ground=LOGGING, facts=(), row=()), True)
        self.assertIs(row_right(EVEN, (("like", (0, 1), (1, 0)), ("all", (0, 2))), (((1, 0), (0, 1)), ((0, 2), None))),
                      True)
        self.assertIs(row_right(ONE, (("like", (2,), (5,)), ("like", (3,), (9,))), (((5,), (2,)),)), True)
        self.assertIs(row_right(BARE, (("all", ()),), (((), None),)), True)

    def test_a_row_may_make_more_of_them_one(self):
        self.assertIs(row_right(LOGGING, (), FLUSHED), True)
        self.assertIs(row_right(LOGGING, (self.like,), (((1, 0), (0, 0)),)), True)
        self.assertIs(row_right(LOGGING, (self.like,), (((0, 0), None),)), True)
        self.assertIs(row_right(ONE, (("like", (2,), (5,)),), (((1,), (0,)),)), True)

    def test_the_two_sides_of_each_fact_have_one_normal(self):
        self.assertIs(row_right(LOGGING, (self.like,), ()), False)
        self.assertIs(row_right(LOGGING, (self.like, ("like", (0, 1), (0, 2))), FLUSHED), False)
        self.assertIs(row_right(LOGGING, (self.like, ("all", (0, 3))), FLUSHED), False)
        self.assertIs(row_right(LOGGING, (("all", (0, 3)),), (((0, 3), None),)), True)
        self.assertIs(row_right(LOGGING, (("all", (0, 2)),), (((0, 3), None),)), False)
        self.assertIs(row_right(LOGGING, (("like", (0, 1), (0, 2)),), (((0, 2), None),)), False)
        self.assertIs(row_right(ONE, (("like", (2,), (6,)),), (((5,), (2,)),)), False)

    def test_no_left_is_below_another_one(self):
        self.assertIs(row_right(ONE, (), (((2,), (0,)), ((3,), (1,)))), False)
        self.assertIs(row_right(LOGGING, (), (((1, 0), None), ((1, 1), None))), False)
        self.assertIs(row_right(LOGGING, (), (((2, 0), None), ((1, 1), None), ((0, 3), None))), True)

    def test_each_right_is_a_normal(self):
        self.assertIs(row_right(THREE, (), (((1, 0, 0), (0, 2, 0)), ((0, 3, 0), (0, 0, 1)))), True)
        self.assertIs(row_right(THREE, (), (((0, 2, 0), (0, 0, 1)), ((1, 0, 0), (0, 2, 0)))), False)
        self.assertIs(row_right(LOGGING, (), (((1, 0), None), ((0, 2), (1, 1)))), False)

    def test_rules_that_meet_and_rules_that_do_not(self):
        # (1, 2) comes to (0, 2) by the first rule, and to (1, 1) and so to (0, 1) by the second one.
        self.assertIs(row_right(LOGGING, (), FLUSHED + (((0, 2), (0, 1)),)), True)
        self.assertIs(row_right(LOGGING, (), FLUSHED + (((0, 2), (1, 0)),)), False)
        self.assertIs(row_right(EVEN, (), (((0, 2), (0, 0)), ((1, 1), (1, 0)))), True)
        self.assertIs(row_right(EVEN, (), (((0, 2), (0, 0)), ((1, 1), (0, 0)))), False)
        self.assertIs(row_right(EVEN, (), (((0, 2), (0, 0)), ((2, 1), None))), False)
        self.assertIs(row_right(EVEN, (), (((0, 2), None), ((1, 1), None))), True)
        self.assertIs(row_right(EVEN, (), (((0, 2), None), ((1, 1), (0, 1)))), True)
        self.assertIs(row_right(EVEN, (), (((0, 2), None), ((1, 1), (1, 0)))), False)
        # Rules that share no kind always meet.
        self.assertIs(row_right(EVEN, (), (((0, 2), (0, 1)), ((3, 0), (2, 0)))), True)

    def test_facts_have_the_lesser_key_first(self):
        for fact in JUNK + ((), ("like",), ("all",), ("like", (0, 1)), ("all", (0, 1), (1, 1)), ("all", None),
                            ("like", (1, 1), (0, 1)), ("like", (0, 1), (0, 1)), ("like", (0, 1), None), ("all", (0,)),
                            ("like", (0, 1), (True, 1)), ("all", (0, -1)), ("Like", (0, 1), (1, 1)), ("all", "01"),
                            ("like", (0, 1), (1, 1), (2, 1)), (None, (0, 1)), (True, (0, 1), (1, 1))):
            self.assertIs(row_right(LOGGING, (fact,), FLUSHED), False, fact)
            self.assertIs(row_right(LOGGING, (self.like, fact), FLUSHED), False)

    def test_over_any_values(self):
        for thing in JUNK:
            self.assertIs(row_right(thing, (), ()), False)
            self.assertIs(row_right(LOGGING, thing, ()), False)
            self.assertIs(row_right(LOGGING, (), thing), False)
            self.assertIs(row_right(LOGGING, (), (thing,)), False)
            self.assertIs(row_right(LOGGING, (), ((thing, None),)), False)
            self.assertIs(row_right(LOGGING, (), (((1, 1), thing),)), thing is None)
            self.assertIs(row_right(LOGGING, (("all", thing),), FLUSHED), False)
            self.assertIs(row_right(thing, thing, thing), False)

    def test_over_large_rows_and_great_numbers(self):
        self.assertIs(row_right(EVEN, (), tuple(((n, 700 - n), None) for n in range(700))), True)
        great = 10 ** 999
        self.assertIs(row_right(ONE, (("like", (5,), (great + 5,)),), (((great,), (0,)),)), True)
        self.assertIs(row_right(ONE, (("like", (5,), (great + 5,)),), (((3,), (1,)),)), True)
        self.assertIs(row_right(ONE, (("like", (5,), (great + 6,)),), (((3,), (1,)),)), False)

    def test_nothing_handed_in_is_changed(self):
        chance = Chance(THREE, 5)
        told = (chance.facts(6, 4, 0.2), (((1, 0, 0), (0, 2, 0)), ((0, 3, 0), (0, 0, 1))))
        copy = eval(repr(told))
        row_right(THREE, told[0], told[1])
        normal(THREE, told[1], (5, 5, 5))
        self.assertEqual(told, copy)


def led_once(rule, v):
    """Return what a rule that fits makes of a count."""
    return None if rule[1] is None else tuple(n - taken + put for n, taken, put in zip(v, *rule))


def step_by_step(row, v):
    """Return the normal of a worth, one rule at a time, the last one that fits first."""
    fit = [rule for rule in row if v is not None and all(taken <= n for taken, n in zip(rule[0], v))]
    return step_by_step(row, led_once(fit[-1], v)) if fit else v


class RowsAsChanceHasThem(unittest.TestCase):
    def rows(self, many):
        """Tell rows of few rules, of which some are reduced and some meet."""
        for seed in range(many):
            ground = (EVEN, LOGGING, ALIKE, THREE)[seed % 4]
            chance = Chance(ground, seed)
            given = chance.facts(1 + seed % 4, 1 + seed % 3, 0.3)
            if seed % 3:
                told = list(rules(book_of(ground, given)))
                del told[1:1 + seed % 2]
            else:
                told = [(fact[-1], fact[1] if fact[0] == "like" else None) for fact in given]
            row = dict(sorted(told, key=lambda rule: chance.key(rule[0])))
            yield chance, tuple(row.items())

    def test_the_judge_asks_what_the_document_asks(self):
        told = {True: 0, False: 0}
        for chance, row in self.rows(1500):
            below = [(one, two) for one in row for two in row if one != two
                     and all(m <= n for m, n in zip(one[0], two[0]))]
            right = not below and all(step_by_step(row, rule[1]) == rule[1] for rule in row)
            for one in row if right else ():
                for two in row:
                    join = tuple(max(m, n) for m, n in zip(one[0], two[0]))
                    right = right and step_by_step(row, led_once(one, join)) == step_by_step(row, led_once(two, join))
            self.assertIs(row_right(chance.ground, (), row), right, row)
            told[right] += 1
        self.assertGreater(min(told.values()), 300)

    def test_normals_step_by_step(self):
        for chance, row in self.rows(1500):
            v = chance.count(12)
            found = normal(chance.ground, row, v)
            self.assertEqual(step_by_step(row, found), found)
            if row_right(chance.ground, (), row):
                self.assertEqual(found, step_by_step(row, v))

    def test_counts_that_go_to_and_fro(self):
        steps = 0
        for prices, given in TO_AND_FRO:
            ground = ((), tuple(zip("abc", prices)), ("done",))
            row = rules(book_of(ground, given))
            for seed in range(12):
                v = Chance(ground, seed).count((40, 150)[seed % 2])
                found, worth = normal(ground, row, v), v
                while worth is not None:
                    fit = [rule for rule in row if all(taken <= n for taken, n in zip(rule[0], worth))]
                    if not fit:
                        break
                    worth = led_once(fit[seed % len(fit)], worth)
                    steps += 1
                self.assertEqual(found, worth, (row, v))
        self.assertGreater(steps, 10000)

    def test_great_counts_that_go_to_and_fro_quickly(self):
        since = time.monotonic()
        row = (((0, 1, 1), (1, 0, 0)), ((1, 0, 1), (0, 1, 0)))
        for great in (10 ** 7, 10 ** 7 + 1, 10 ** 900):
            self.assertEqual(normal(ALIKE, row, (1, 0, great)), (1 - great % 2, great % 2, 0))
        for prices, given in TO_AND_FRO:
            ground = ((), tuple(zip("abc", prices)), ("done",))
            row = rules(book_of(ground, given))
            for v in ((10000, 10000, 10000), (9999, 1, 10000), (1, 10000, 9999), (10000, 9998, 1)):
                found = normal(ground, row, v)
                self.assertEqual(normal(ground, row, found), found)
        self.assertLess(time.monotonic() - since, 20)


if __name__ == "__main__":
    unittest.main()
