"""Points [0.1], [0.2], [1], [2] and [3]."""

import unittest

from lawsleft.grounds import (
    below, is_ground, key, made_ground, many_states, nought, plus, price, states,
)
from tests.samples import BARE, JUNK, LOGGING, SENDING, WIDE, refusal

RESERVED = ("cells", "deeds", "exits", "if", "else", "while", "catch", "exit", "and", "or", "not", "law")


def bad_ground(what):
    return "BadGround", what


class Grounds(unittest.TestCase):
    def refused(self, thing, what):
        self.assertEqual(refusal(made_ground, thing), bad_ground(what))
        self.assertIs(is_ground(thing), False)

    def granted(self, thing):
        self.assertIs(made_ground(thing), thing)
        self.assertIs(is_ground(thing), True)

    def test_ordinary_grounds(self):
        for thing in (SENDING, LOGGING, WIDE, BARE):
            self.granted(thing)
        self.assertEqual(made_ground(thing=BARE), BARE)

    def test_what_is_no_triple_of_tuples(self):
        for thing in JUNK + ((), ((), ()), ((), (), ("e",), ()), ((), (), "e"), ([], (), ("e",)), ("", (), ("e",))):
            if isinstance(thing, tuple) and len(thing) == 3 and all(isinstance(part, tuple) for part in thing):
                continue
            self.refused(thing, -1)
        self.refused([(), (), ("e",)], -1)
        # The outer form is asked ahead of what stands in the parts.
        self.refused(((("c", 0),), (), None), -1)

    def test_names(self):
        for name in ("a", "z", "a" * 12, "a0", "z9", "abcdefghijkl", "lawful", "notes", "iff", "exit1"):
            self.granted(((), (), (name,)))
            self.granted((((name, 1),), (), ("q",)))
            self.granted(((), ((name, 1),), ("q",)))
        for name in RESERVED + ("", "a" * 13, "0", "9a", "A", "aB", "a_b", "_a", "a b", " a", "a-", "\u00e9", "a\u00b2",
                                "a\u0663", "\u00b5", 1, True, None, ("a",), b"a"):
            self.refused(((), (), (name,)), (2, 0))
            self.refused((((name, 1),), (), ("q",)), (0, 0))
            self.refused(((), ((name, 1),), ("q",)), (1, 0))

    def test_sizes(self):
        for size in (1, 2, 8):
            self.granted(((("c", size),), (), ("e",)))
        for size in (0, 9, -1, 10 ** 900, True, False, "2", None, (2,)):
            self.refused(((("c", size),), (), ("e",)), (0, 0))

    def test_prices(self):
        for cost in (1, 2, 99):
            self.granted(((), (("k", cost),), ("e",)))
        for cost in (0, 100, -1, True, "2", None, (2,)):
            self.refused(((), (("k", cost),), ("e",)), (1, 0))

    def test_entries_of_no_right_form(self):
        for entry in (None, "c", (), ("c",), ("c", 1, 1), (1, "c"), (("c", 1),), 3):
            self.refused(((("a", 1), entry), (), ("e",)), (0, 1))
            self.refused(((), (("a", 1), entry), ("e",)), (1, 1))
        for entry in (None, (), ("c",), 3, ("c", 1)):
            self.refused(((), (), ("e", "f", entry)), (2, 2))

    def test_how_many_entries(self):
        cells = tuple((name, 1) for name in "abcde")
        self.granted((cells[:4], (), ("q",)))
        self.refused((cells, (), ("q",)), (0, -1))
        self.granted(((), cells[:3], ("q",)))
        self.refused(((), cells[:4], ("q",)), (1, -1))
        self.granted(((), (), ("a", "b", "c", "d")))
        self.refused(((), (), ("a", "b", "c", "d", "f")), (2, -1))
        self.refused(((), (), ()), (2, -1))

    def test_how_many_states(self):
        self.granted(((("a", 8), ("b", 8)), (), ("e",)))
        self.granted(((("a", 8), ("b", 4), ("c", 2), ("d", 1)), (), ("e",)))
        self.refused(((("a", 8), ("b", 8), ("c", 2)), (), ("e",)), (0, -1))
        self.refused(((("a", 5), ("b", 7), ("c", 2)), (), ("e",)), (0, -1))
        self.refused(((("a", 8), ("b", 3), ("c", 3)), (), ("e",)), (0, -1))

    def test_names_met_further_ahead(self):
        self.refused(((("a", 2), ("b", 2), ("a", 3)), (), ("e",)), (0, 2))
        self.refused(((("a", 2),), (("k", 1), ("a", 1)), ("e",)), (1, 1))
        self.refused(((), (("k", 1), ("m", 1), ("k", 2)), ("e",)), (1, 2))
        self.refused(((("a", 2),), (), ("e", "a")), (2, 1))
        self.refused(((), (("k", 1),), ("k",)), (2, 0))
        self.refused(((), (), ("e", "f", "e")), (2, 2))

    def test_which_fault_comes_first(self):
        too_many = tuple((name, 0) for name in "abcde")
        self.refused((too_many, (), ()), (0, -1))
        self.refused(((("a", 8), ("b", 8), ("c", 2), ("d", 0)), (), ()), (0, 3))
        self.refused(((("a", 8), ("b", 8), ("c", 2)), (("a", 0),), ()), (0, -1))
        self.refused(((("a", 0), ("b", 9)), (), ("e",)), (0, 0))
        self.refused(((), (("k", 0),), ()), (1, 0))
        self.refused(((), too_many[:4], ()), (1, -1))
        self.refused(((), (), ("e", "if", "e", "f", "g")), (2, -1))

    def test_the_judge_over_any_values(self):
        for thing in JUNK:
            self.assertIs(is_ground(thing), False)
            self.assertIs(is_ground(((), (), thing)), False)
            self.assertIs(is_ground((thing, (), ("e",))), False)
            self.assertIs(is_ground((((thing, 1),), (), ("e",))), thing == "a")
            self.assertIs(is_ground(((("c", thing),), (), ("e",))), thing == 1 and thing is not True)


class States(unittest.TestCase):
    def test_states_are_rising(self):
        self.assertEqual(states(SENDING), ((0,), (1,)))
        self.assertEqual(states(WIDE), ((0, 0), (0, 1), (1, 0), (1, 1), (2, 0), (2, 1)))
        self.assertEqual(states(LOGGING), ((),))
        full = ((("a", 8), ("b", 8)), (), ("e",))
        self.assertEqual(states(full), tuple((a, b) for a in range(8) for b in range(8)))
        self.assertEqual(states(((("a", 1), ("b", 1)), (), ("e",))), ((0, 0),))

    def test_how_many_they_are(self):
        self.assertEqual([many_states(ground) for ground in (SENDING, WIDE, LOGGING)], [2, 6, 1])
        self.assertEqual(many_states(ground=((("a", 8), ("b", 8)), (), ("e",))), 64)

    def test_they_ask_for_a_ground(self):
        for call in (states, many_states, nought):
            self.assertEqual(refusal(call, ((), (), ())), bad_ground((2, -1)))
            self.assertEqual(refusal(call, None), bad_ground(-1))


class Counts(unittest.TestCase):
    def test_nought(self):
        self.assertEqual([nought(ground) for ground in (SENDING, LOGGING, BARE)], [(0,), (0, 0), ()])

    def test_plus(self):
        self.assertEqual(plus((1, 2, 3), (10, 0, 4)), (11, 2, 7))
        self.assertEqual(plus(v=(), w=()), ())
        self.assertEqual(plus((10 ** 500,), (1,)), (10 ** 500 + 1,))

    def test_below(self):
        for v, w, told in (((1, 2), (1, 2), True), ((0, 2), (1, 2), True), ((2, 0), (1, 9), False),
                           ((0, 3), (9, 2), False), ((), (), True)):
            self.assertIs(below(v, w), told)
        self.assertIs(below(v=(3,), w=(2,)), False)

    def test_price_and_key(self):
        self.assertEqual(price(LOGGING, (3, 2)), 13)
        self.assertEqual(key(LOGGING, (3, 2)), (13, (3, 2)))
        self.assertEqual(price(((), (("a", 1), ("b", 99), ("c", 7)), ("e",)), (1, 2, 3)), 220)
        self.assertEqual(price(BARE, ()), 0)
        self.assertEqual(key(ground=BARE, v=()), (0, ()))

    def test_counts_are_ordered_by_price_and_then_as_tuples(self):
        found = sorted([(5, 0), (0, 1), (4, 0), (0, 2), (9, 0), (1, 1)], key=lambda v: key(LOGGING, v))
        self.assertEqual(found, [(4, 0), (0, 1), (5, 0), (1, 1), (9, 0), (0, 2)])

    def test_what_is_no_count(self):
        for v in ((1,), (1, 2, 3), (1, -1), (True, 0), (0, False), (0, None), ("0", 0), None, 3, "00", ((0,), 0)):
            for call in (price, key):
                self.assertEqual(refusal(call, LOGGING, v), ("BadCount", v))

    def test_the_ground_is_asked_ahead_of_the_count(self):
        for call in (price, key):
            self.assertEqual(refusal(call, ((), (), ()), None), bad_ground((2, -1)))


if __name__ == "__main__":
    unittest.main()
