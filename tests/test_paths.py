"""Points [24], [25] and [26], but for what derivation returns."""

import unittest

from lawsleft.paths import derivation_right, lemmas_right, path_right, walked
from tests.samples import BARE, JUNK, LOGGING, SENDING, nested, refusal

FACT = ("like", (0, 1), (1, 1))
ROW = (((1, 1), (0, 1)),)
LEMMA = ((1, 1), (0, 1), ((0, -1, 1),))
TO_ALL = (("like", (0,), (3,)), ("all", (2,)))


class Walks(unittest.TestCase):
    def test_the_examples(self):
        self.assertEqual(walked(LOGGING, (FACT,), (), (3, 2), ((0, -1, 3),)), (0, 2))
        self.assertEqual(refusal(walked, LOGGING, (FACT,), (), (3, 2), ((0, -1, 4),)), ("BadStep", 0))
        self.assertIsNone(walked(SENDING, TO_ALL, (), (0,), ((0, 1, 1), (1, 1, 1))))

    def test_no_step_at_all(self):
        self.assertEqual(walked(ground=LOGGING, facts=(), lemmas=(), start=(3, 2), path=()), (3, 2))
        self.assertEqual(walked(BARE, (), (), (), ()), ())

    def test_both_ways(self):
        self.assertEqual(walked(LOGGING, (FACT,), (), (3, 2), ((0, 1, 1),)), (4, 2))
        self.assertEqual(walked(LOGGING, (FACT,), (), (3, 2), ((0, 1, 10 ** 9),)), (3 + 10 ** 9, 2))
        self.assertEqual(walked(LOGGING, (FACT,), (), (3, 2), ((0, 1, 5), (0, -1, 8))), (0, 2))
        swap = ("like", (0, 1), (5, 0))
        self.assertEqual(walked(LOGGING, (swap,), (), (11, 0), ((0, -1, 2),)), (1, 2))
        self.assertEqual(walked(LOGGING, (swap,), (), (0, 3), ((0, 1, 2),)), (10, 1))

    def test_many_times_just_fit_and_one_more(self):
        swap = ("like", (2, 1), (1, 2))
        for taken, start, way, most in ((FACT, (3, 1), -1, 3), (FACT, (0, 5), -1, 0), (FACT, (5, 0), -1, 0),
                                        (FACT, (9, 9), -1, 9), (swap, (4, 1), 1, 3), (swap, (1, 5), -1, 4),
                                        (swap, (2, 1), 1, 1), (("like", (0, 2), (3, 0)), (0, 9), 1, 4),
                                        (("like", (0, 2), (3, 0)), (10, 0), -1, 3),
                                        (("like", (1, 0), (3, 0)), (10 ** 30, 0), -1, 10 ** 9),
                                        (("like", (1, 0), (3, 0)), (21, 0), -1, 10)):
            if most:
                walked(LOGGING, (taken,), (), start, ((0, way, most),))
                one_by_one = walked(LOGGING, (taken,), (), start, ((0, way, 1),) * min(most, 20))
                at_one_go = walked(LOGGING, (taken,), (), start, ((0, way, min(most, 20)),))
                self.assertEqual(one_by_one, at_one_go)
            self.assertEqual(refusal(walked, LOGGING, (taken,), (), start, ((0, way, most + 1),)), ("BadStep", 0))

    def test_to_none(self):
        fact = ("all", (1, 0))
        self.assertIsNone(walked(LOGGING, (fact,), (), (1, 0), ((0, 1, 1),)))
        self.assertIsNone(walked(LOGGING, (fact,), (), (3, 5), ((0, 1, 1),)))
        for start, path, index in (((0, 5), ((0, 1, 1),), 0), ((3, 5), ((0, 1, 2),), 0), ((3, 5), ((0, -1, 1),), 0),
                                   ((3, 5), ((0, 1, 1), (0, 1, 1)), 1), ((3, 5), ((0, 1, 1), (0, -1, 1)), 1)):
            self.assertEqual(refusal(walked, LOGGING, (fact,), (), start, path), ("BadStep", index))
        self.assertEqual(refusal(walked, LOGGING, (fact, FACT), (), (1, 1), ((0, 1, 1), (1, -1, 1))), ("BadStep", 1))

    def test_steps_by_lemmas(self):
        lemmas = (((2, 0), (0, 0), ()), ((0, 1), None, ()), ((0, 0), (1, 0), ()))
        self.assertEqual(walked(LOGGING, (FACT,), lemmas, (5, 0), ((1, 1, 2),)), (1, 0))
        self.assertEqual(walked(LOGGING, (FACT,), lemmas, (5, 0), ((1, -1, 2),)), (9, 0))
        self.assertIsNone(walked(LOGGING, (FACT,), lemmas, (5, 1), ((2, 1, 1),)))
        self.assertEqual(walked(LOGGING, (FACT,), lemmas, (5, 0), ((3, 1, 7),)), (12, 0))
        self.assertEqual(refusal(walked, LOGGING, (FACT,), lemmas, (5, 0), ((4, 1, 1),)), ("BadStep", 0))
        self.assertEqual(refusal(walked, LOGGING, (FACT,), lemmas, (5, 1), ((2, -1, 1),)), ("BadStep", 0))

    def test_a_step_that_leads_nowhere(self):
        self.assertEqual(walked(LOGGING, (), (((1, 1), (1, 1), ()),), (1, 2), ((0, -1, 10 ** 9),)), (1, 2))

    def test_without_kinds(self):
        self.assertIsNone(walked(BARE, (("all", ()),), (), (), ((0, 1, 1),)))

    def test_what_is_no_step(self):
        for step in JUNK + ((), (0,), (0, 1), (0, 1, 1, 1), (1, 1, 1), (-1, 1, 1), (0, 0, 1), (0, 2, 1), (0, -2, 1),
                            (0, 1, 0), (0, 1, -1), (0, 1, 10 ** 9 + 1), (False, 1, 1), (0, True, 1), (0, 1, True),
                            (0, 1, None), ("0", 1, 1), [0, 1, 1]):
            self.assertEqual(refusal(walked, LOGGING, (FACT,), (), (3, 2), (step,)), ("BadStep", 0))
            self.assertEqual(refusal(walked, LOGGING, (FACT,), (), (3, 2), ((0, -1, 1), (0, 1, 1), step, None)),
                             ("BadStep", 2))

    def test_which_error_comes_first(self):
        self.assertEqual(refusal(walked, None, (), (), None, None), ("BadGround", -1))
        self.assertEqual(refusal(walked, ((), (), ()), (), (), None, None), ("BadGround", (2, -1)))
        for start in (None, (1,), (1, True), (1, -1), (1, 2, 3), "12"):
            self.assertEqual(refusal(walked, LOGGING, (FACT,), (), start, None), ("BadCount", start))
        for path in (None, 3, "path", [(0, 1, 1)]):
            self.assertEqual(refusal(walked, LOGGING, (FACT,), (), (3, 2), path), ("BadStep", -1))
        self.assertEqual(refusal(walked, LOGGING, (FACT,), (), (3, 2), ((0, -1, 3), (0, -1, 1), None)), ("BadStep", 1))


class Paths(unittest.TestCase):
    def test_right_and_wrong_ones(self):
        for goal, path, told in (((0, 2), ((0, -1, 3),), True), ((0, 2), ((0, -1, 1), (0, -1, 2)), True),
                                 ((1, 2), ((0, -1, 3),), False), ((0, 2), ((0, -1, 4),), False), ((3, 2), (), True),
                                 ((0, 2), (), False), (None, ((0, -1, 3),), False), (None, (), False),
                                 (None, ((1, 1, 1),), True), ((3, 2), ((1, 1, 1),), False), (None, ((1, 1, 2),), False)):
            self.assertIs(path_right(LOGGING, (FACT, ("all", (1, 2))), (), (3, 2), goal, path), told)
        self.assertIs(path_right(ground=LOGGING, facts=(), lemmas=(), start=(1, 1), goal=(1, 1), path=()), True)
        self.assertIs(path_right(BARE, (), (), (), (), ()), True)

    def test_whether_the_paths_of_lemmas_are_right_is_not_asked(self):
        for path in ((), (None,), ((1, 1, 1),), ("x", 3)):
            self.assertIs(path_right(LOGGING, (FACT,), (((3, 0), (0, 0), path),), (3, 2), (0, 2), ((1, 1, 1),)), True)
        for lemma in JUNK + ((), ((3, 0), (0, 0)), ((3, 0), (0, 0), None), ((3, 0), (0, 0), (), ()), (None, None, ()),
                             ((3,), (0, 0), ()), ((3, 0), (0,), ()), ((3, True), (0, 0), ()), ((3, 0), False, ())):
            self.assertIs(path_right(LOGGING, (FACT,), (lemma,), (3, 2), (3, 2), ()), False)
        self.assertIs(path_right(LOGGING, (FACT,), (((3, 0), None, ()),), (3, 2), (3, 2), ()), True)

    def test_over_any_values(self):
        right = [LOGGING, (FACT,), (LEMMA,), (3, 2), (0, 2), ((0, -1, 3),)]
        self.assertIs(path_right(*right), True)
        for thing in JUNK + ((), (FACT, ("like", (0, 1))), (LEMMA, 3), nested((3, 2), 3)):
            for index in range(6):
                some = list(right)
                some[index] = thing
                # Without lemmas the path is right all the same.
                self.assertIs(path_right(*some), index == 2 and thing == ())
        for start, goal in (((3, True), (0, 2)), ((3, 2), (False, 2)), ((3, 2), (0, 2, 0)), (None, None), ((3, -2), None)):
            self.assertIs(path_right(LOGGING, (FACT,), (), start, goal, ((0, -1, 3),)), False)
        self.assertIs(path_right(LOGGING, (("like", (1, 1), (0, 1)),), (), (3, 2), (3, 2), ()), False)


class Lemmas(unittest.TestCase):
    def told(self, lemmas, facts=(FACT,)):
        return lemmas_right(LOGGING, facts, lemmas)

    def test_right_ones(self):
        self.assertIs(lemmas_right(ground=LOGGING, facts=(), lemmas=()), True)
        self.assertIs(self.told((LEMMA,)), True)
        self.assertIs(self.told((((1, 1), (1, 1), ()), LEMMA, LEMMA)), True)
        self.assertIs(self.told((((7, 2), None, ((0, -1, 7), (1, 1, 1))),), (FACT, ("all", (0, 2)))), True)

    def test_wrong_ones(self):
        self.assertIs(self.told((((1, 1), (0, 1), ()),)), False)
        self.assertIs(self.told((((1, 1), (0, 1), ((0, 1, 1),)),)), False)
        self.assertIs(self.told((((1, 1), None, ((0, -1, 1),)),)), False)
        self.assertIs(self.told((LEMMA, ((1, 1), (0, 2), ((0, -1, 1),)))), False)
        self.assertIs(self.told((((1, 1), (0, 2), ((0, -1, 1),)), LEMMA)), False)

    def test_lemmas_lean_on_what_stands_ahead_of_them_alone(self):
        self.assertIs(self.told((LEMMA, ((4, 1), (2, 1), ((1, 1, 2),)))), True)
        self.assertIs(self.told((LEMMA, ((4, 1), (2, 1), ((1, 1, 2),)), ((6, 3), (2, 3), ((2, 1, 2),)))), True)
        # On itself, on a later one, and on none at all.
        self.assertIs(self.told((LEMMA, ((4, 1), (2, 1), ((2, 1, 1),)))), False)
        self.assertIs(self.told((((4, 1), (3, 1), ((1, 1, 1),)), LEMMA)), False)
        self.assertIs(self.told((((4, 1), (3, 1), ((2, 1, 1),)), ((1, 1), (0, 1), ((0, -1, 1),)))), False)
        self.assertIs(self.told((LEMMA, ((4, 1), (2, 1), ((3, 1, 1),)))), False)

    def test_over_any_values(self):
        for thing in JUNK:
            self.assertIs(lemmas_right(thing, (), ()), False)
            self.assertIs(lemmas_right(LOGGING, thing, ()), False)
            self.assertIs(lemmas_right(LOGGING, (FACT,), thing), False)
            for lemma in (thing, (thing, (0, 1), ()), ((1, 1), thing, ((0, -1, 1),)), ((1, 1), (0, 1), thing),
                          ((1, 1), (0, 1), (thing,)), ((1, 1), (0, 1), ((0, -1, thing),)),
                          ((1, 1), (0, 1), ((0, thing, 1),))):
                expected = lemma in (((1, 1), (0, 1), ((0, -1, 1),)),) and thing is not True
                self.assertIs(lemmas_right(LOGGING, (FACT,), (lemma,)), expected)
                self.assertIs(lemmas_right(LOGGING, (FACT,), (LEMMA, lemma)), expected)
        self.assertIs(lemmas_right(LOGGING, (FACT,) * 1000, (LEMMA,) * 300), True)


class Derivations(unittest.TestCase):
    def test_the_example(self):
        self.assertIs(derivation_right(LOGGING, (FACT,), ROW, ((LEMMA,), (1,))), True)
        self.assertIs(derivation_right(ground=LOGGING, facts=(), row=(), derivation=((), ())), True)

    def test_a_fact_may_show_a_rule(self):
        row = (((2, 0), None), ((0, 1), None))
        facts = (("all", (0, 1)), ("all", (2, 0)))
        self.assertIs(derivation_right(LOGGING, facts, row, ((), (1, 0))), True)
        self.assertIs(derivation_right(LOGGING, facts, row, ((), (0, 1))), False)
        # The fact of a like has its greater side behind, which a rule has in front.
        self.assertIs(derivation_right(LOGGING, (FACT,), ROW, ((), (0,))), False)

    def test_wrong_ones(self):
        for told in (((LEMMA,), (0,)), ((LEMMA,), (2,)), ((LEMMA,), (-1,)), ((LEMMA,), (True,)), ((LEMMA,), ()),
                     ((LEMMA,), (1, 1)), ((LEMMA,), (None,)), ((LEMMA,), ("1",)), ((LEMMA,), 1), ((LEMMA,), None),
                     ((), (1,)), ((((1, 1), (0, 1), ()),), (1,)), ((((0, 1), (1, 1), ((0, 1, 1),)),), (1,)),
                     ((((2, 1), (1, 1), ((0, -1, 1),)),), (1,)), (LEMMA, (1,)), ((LEMMA,),), ((LEMMA,), (1,), ()), (),
                     [(LEMMA,), (1,)], ((LEMMA, ((1, 1), (0, 0), ())), (1,)), (None, (1,))):
            self.assertIs(derivation_right(LOGGING, (FACT,), ROW, told), False)
        self.assertIs(derivation_right(LOGGING, (FACT,), ROW, ((LEMMA, LEMMA), (2,))), True)
        self.assertIs(derivation_right(LOGGING, (FACT,), (), ((LEMMA,), ())), True)
        self.assertIs(derivation_right(LOGGING, (FACT,), (((1, 1), None),), ((LEMMA,), (1,))), False)

    def test_what_is_no_row(self):
        up = (((1, 1), (0, 1)), ((0, 1), (0, 1)))
        self.assertIs(derivation_right(LOGGING, (FACT,), up, ((LEMMA, ((0, 1), (0, 1), ())), (1, 2))), False)
        self.assertIs(derivation_right(LOGGING, (FACT,), ROW + ROW, ((LEMMA,), (1, 1))), False)

    def test_over_any_values(self):
        right = [LOGGING, (FACT,), ROW, ((LEMMA,), (1,))]
        for thing in JUNK:
            for index in range(4):
                some = list(right)
                some[index] = thing
                self.assertIs(derivation_right(*some), False)
            self.assertIs(derivation_right(LOGGING, (FACT,), ROW, (thing, (1,))), False)
            self.assertIs(derivation_right(LOGGING, (FACT,), ROW, ((LEMMA,), thing)), False)
            self.assertIs(derivation_right(LOGGING, (FACT,), ROW, ((LEMMA,), (thing,))), thing == 1 and thing is not True)


if __name__ == "__main__":
    unittest.main()
