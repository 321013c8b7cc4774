"""Points [5], [6], [7] and [10], but for what programs do."""

import unittest

from lawsleft.programs import is_program, made_program, placed
from tests.samples import BARE, C_IS_0, FOREVER, JUNK, LOGGING, NEVER, SENDING, WIDE, nested, refusal

SEND = ("do", "send", 1)
FULL = ("exit", "full")
FORTY = ("while", C_IS_0, (SEND,) * 39)


def deep_number(deep):
    told = ("cell", "c")
    for _ in range(deep - 1):
        told = ("add", ("num", 1), told)
    return told


def deep_test(deep, innermost=C_IS_0):
    told = innermost
    for _ in range(deep - 1):
        told = ("not", told)
    return told


def deep_body(deep, innermost):
    """Return a program in which the innermost body lies so deep."""
    body = innermost
    for _ in range(deep - 1):
        body = (("while", C_IS_0, body),)
    return body


class Right(unittest.TestCase):
    def granted(self, thing, ground=SENDING):
        self.assertIs(made_program(ground, thing), thing)
        self.assertIs(is_program(ground, thing), True)

    def refused(self, thing, what, ground=SENDING):
        self.assertEqual(refusal(made_program, ground, thing), what)
        self.assertIs(is_program(ground, thing), False)

    def bad(self, thing, *place, ground=SENDING):
        self.refused(thing, ("BadProgram", place), ground)

    def bad_alone(self, *statements, ground=SENDING):
        for statement in statements:
            with self.subTest(statement):
                self.bad((statement,), 0, ground=ground)


class Statements(Right):
    def test_ordinary_programs(self):
        self.granted(())
        self.granted((("set", "c", ("num", 0)), SEND, FULL))
        self.granted((("if", C_IS_0, (SEND,), ()), ("while", C_IS_0, (SEND, FULL)), ("catch", (FULL,), ())))
        self.granted((("catch", (), (("done", ()), ("full", (SEND,)))),))
        self.granted((), BARE)
        self.assertEqual(made_program(ground=SENDING, thing=(SEND,)), (SEND,))
        self.assertIs(is_program(ground=SENDING, thing=(SEND,)), True)

    def test_words(self):
        self.bad_alone((), ("send",), ("Do", "send", 1), ("", "send", 1), (None, "send", 1), (True,), ("skip",),
                       ("law", (), ()), ("done",), (("do", "send", 1),), ("num", 1))
        for thing in JUNK:
            self.bad_alone(thing, (thing,), (thing, "c", ("num", 1)))

    def test_set(self):
        self.granted((("set", "a", ("cell", "b")), ("set", "b", ("num", 0))), WIDE)
        self.bad_alone(("set",), ("set", "c"), ("set", "c", ("num", 0), ()), ("set", "d", ("num", 0)),
                       ("set", "send", ("num", 0)), ("set", "full", ("num", 0)), ("set", None, ("num", 0)),
                       ("set", 0, ("num", 0)), ("set", "c", 0), ("set", "c", C_IS_0), ("set", "c", "c"))
        self.bad_alone(("set", "c", ("num", 0)), ground=LOGGING)

    def test_do(self):
        for many in range(1, 10):
            self.granted((("do", "send", many),))
        for many in (0, 10, -1, True, False, "1", None, (1,), 10 ** 999):
            self.bad_alone(("do", "send", many))
        self.bad_alone(("do",), ("do", "send"), ("do", "send", 1, 1), ("do", "log", 1), ("do", "c", 1),
                       ("do", "full", 1), ("do", None, 1), ("do", ("send",), 1))

    def test_if(self):
        self.bad_alone(("if",), ("if", C_IS_0), ("if", C_IS_0, ()), ("if", C_IS_0, (), (), ()),
                       ("if", ("num", 1), (), ()), ("if", True, (), ()), ("if", C_IS_0, None, ()),
                       ("if", C_IS_0, (), "x"), ("if", C_IS_0, (), 3), ("if", C_IS_0, (), None))

    def test_while(self):
        self.bad_alone(("while",), ("while", C_IS_0), ("while", C_IS_0, (), ()), ("while", ("num", 1), ()),
                       ("while", None, ()), ("while", C_IS_0, None), ("while", C_IS_0, ""))

    def test_exit(self):
        self.granted((("exit", "full"), ("exit", "lost")), WIDE)
        self.bad_alone(("exit",), ("exit", "done"), ("exit", "lost"), ("exit", "c"), ("exit", "send"),
                       ("exit", None), ("exit", "full", ()), ("exit", ("full",)), ("exit", 1))
        self.bad_alone(("exit", "done"), ("exit", "full"), ground=LOGGING)

    def test_catch(self):
        self.granted((("catch", (SEND,), ()),))
        self.bad_alone(("catch",), ("catch", ()), ("catch", (), (), ()), ("catch", None, ()), ("catch", (), None),
                       ("catch", (), "full"), ("catch", (), (("full",),)), ("catch", (), (("full", (), ()),)),
                       ("catch", (), ("full", ())), ("catch", (), (("full", None),)), ("catch", (), (("c", ()),)),
                       ("catch", (), (("lost", ()),)), ("catch", (), ((None, ()),)), ("catch", (), (None,)))

    def test_pairs_of_a_catch(self):
        ground = ((), (), ("a", "b", "c", "d"))
        four = tuple((name, ()) for name in "badc")
        self.granted((("catch", (), four),), ground)
        self.bad_alone(("catch", (), four + (("a", ()),)), ("catch", (), four + (("e", ()),)), ground=ground)
        for name in ("done", "full"):
            self.bad_alone(("catch", (), ((name, ()), (name, (SEND,)))))
        self.bad_alone(("catch", (), (("a", ()), ("b", ()), ("a", ()))), ground=ground)

    def test_lists_are_no_tuples(self):
        self.bad_alone(["do", "send", 1], ("while", C_IS_0, []), ("catch", (), []), ("catch", (), [("full", ())]))
        self.bad([], -1)


class Expressions(Right):
    def test_numbers(self):
        for told in (("num", 0), ("num", 99), ("cell", "c"), ("add", ("num", 1), ("cell", "c")),
                     ("sub", ("num", 0), ("num", 99)), ("mul", ("cell", "c"), ("cell", "c"))):
            self.granted((("set", "c", told), ("while", ("less", told, told), ())))
        for told in (("num", -1), ("num", 100), ("num", True), ("num", "1"), ("num", None), ("num",), ("num", 1, 1),
                     ("cell", "d"), ("cell", "send"), ("cell", 0), ("cell",), ("add", ("num", 1)), 1, "c", None, (),
                     ("add", ("num", 1), ("num", 2), ("num", 3)), ("div", ("num", 1), ("num", 1)), ("add", 1, 2),
                     ("add", ("num", 100), ("num", 1)), ("sub", ("num", 1), ("num", 100)),
                     ("mul", ("cell", "c"), ("cell", "d")), C_IS_0, (None, ("num", 1), ("num", 1)),
                     ("sell", "c"), ("", "c"), ("add",), ("mul", ("num", 1), ("num", 1), ("num", 1), ("num", 1))):
            self.bad_alone(("set", "c", told), ("while", ("eq", told, ("num", 1)), ()),
                           ("if", ("less", ("num", 1), told), (), ()))

    def test_tests(self):
        for told in (("less", ("num", 1), ("num", 2)), ("not", C_IS_0), ("and", C_IS_0, NEVER), ("or", NEVER, C_IS_0)):
            self.granted((("while", told, ()), ("if", told, (), ())))
        for told in ((), ("eq",), ("eq", ("num", 1)), ("eq", ("num", 1), ("num", 1), ("num", 1)), ("not",), ("less",),
                     ("not", C_IS_0, C_IS_0), ("and", C_IS_0), ("or", C_IS_0, C_IS_0, C_IS_0), ("not", ("num", 1)),
                     ("and", ("num", 1), C_IS_0), ("or", C_IS_0, ("num", 1)), ("xor", C_IS_0, C_IS_0), ("eq", 1, 1),
                     ("more", ("num", 1), ("num", 1)), ("eq", C_IS_0, C_IS_0), True, None, "eq", ("cell", "c"),
                     ("add", ("num", 1), ("num", 1)), (None, C_IS_0), (None, C_IS_0, C_IS_0)):
            self.bad_alone(("while", told, ()), ("if", told, (), ()))

    def test_depth_of_numbers(self):
        self.granted((("set", "c", deep_number(6)),))
        self.bad_alone(("set", "c", deep_number(7)))
        self.bad_alone(("set", "c", ("mul", deep_number(6), ("num", 1))))
        self.granted((("set", "c", ("mul", deep_number(5), ("num", 1))),))
        self.granted((("set", "c", ("sub", ("num", 1), deep_number(5))),))
        self.bad_alone(("while", ("eq", ("num", 1), deep_number(7)), ()))

    def test_depth_of_tests(self):
        self.granted((("while", deep_test(6), ()),))
        self.bad_alone(("while", deep_test(7), ()))
        # However deep the numbers of an eq are, it is one deep itself.
        self.granted((("while", deep_test(6, ("eq", deep_number(6), deep_number(6))), ()),))
        self.bad_alone(("while", deep_test(1, ("eq", deep_number(6), deep_number(7))), ()))
        self.granted((("if", ("and", deep_test(5), deep_test(1)), (), ()),))
        self.granted((("if", ("or", deep_test(1), deep_test(5)), (), ()),))
        self.bad_alone(("if", ("and", deep_test(1), deep_test(6)), (), ()), ("if", ("or", deep_test(6), NEVER), (), ()))


class Limits(Right):
    def test_statements_of_a_body(self):
        self.granted((SEND,) * 40)
        self.bad((SEND,) * 41, -1)
        self.granted((("while", C_IS_0, (SEND,) * 40),))
        self.bad_alone(("while", C_IS_0, (SEND,) * 41), ("if", C_IS_0, (SEND,) * 41, ()),
                       ("if", C_IS_0, (), (SEND,) * 41), ("catch", (SEND,) * 41, ()),
                       ("catch", (), (("full", (SEND,) * 41),)))
        # A body that is too long is a fault of its statement, whatever stands in it.
        self.bad((SEND, ("while", C_IS_0, (None,) * 41)), 1)

    def test_what_is_no_body(self):
        for thing in JUNK:
            if not isinstance(thing, tuple) or len(thing) > 40:
                self.bad(thing, -1)

    def test_statements_in_all(self):
        inner = (SEND,) * 37
        self.granted((("if", C_IS_0, (SEND,) * 40, (SEND,) * 40),) + (SEND,) * 39)
        three = (FORTY,) * 3
        self.granted(three)
        self.refused(three + (SEND,), ("TooMany", 121))
        self.refused(three + (None,), ("TooMany", 121))
        self.refused(three + (("while", C_IS_0, (None,)),), ("TooMany", 121))
        self.refused(three[:2] + (("while", C_IS_0, (SEND,) * 40),), ("TooMany", 121))
        self.bad(three[:2] + (("while", C_IS_0, (SEND,) * 38 + (None, SEND)),), 2, 0, 38)
        self.granted((("if", C_IS_0, inner, inner), ("catch", inner, (("full", (SEND,) * 7),))))
        self.refused((("if", C_IS_0, inner, inner), ("catch", inner, (("full", (SEND,) * 8),))), ("TooMany", 121))

    def test_the_first_error_counts_whether_it_is_one_too_many_or_a_bad_one(self):
        three = (FORTY,) * 3
        self.bad((None,) + three, 0)
        self.refused(three + (SEND, None), ("TooMany", 121))

    def test_depth_of_bodies(self):
        self.granted(deep_body(12, ()))
        self.granted(deep_body(12, (SEND,)))
        self.bad(deep_body(13, ()), *(0,) * 23)
        self.bad(deep_body(13, (SEND,)), *(0,) * 23)
        for statement in (("if", C_IS_0, (), ()), ("catch", (), ()), ("catch", (), (("full", ()),)), FOREVER):
            self.granted(deep_body(11, (SEND, statement)))
            self.bad(deep_body(12, (SEND, statement)), *(0,) * 22, 1)

    def test_what_lies_too_deep_is_met_in_the_order_of_the_text(self):
        self.bad(deep_body(13, ()) + (None,), *(0,) * 23)
        self.bad((None,) + deep_body(13, ()), 0)


class Places(Right):
    def test_the_example(self):
        self.bad((SEND, ("while", C_IS_0, ()), ("if", C_IS_0, (), (FULL, ("do", "send", 0)))), 2, 1, 1)

    def test_bodies_by_their_numbers(self):
        self.bad((("if", C_IS_0, (SEND, None), ()),), 0, 0, 1)
        self.bad((("if", C_IS_0, (), (SEND, None)),), 0, 1, 1)
        self.bad((SEND, ("while", C_IS_0, (None,))), 1, 0, 0)
        self.bad((("catch", (SEND, SEND, None), (("full", ()),)),), 0, 0, 2)
        self.bad((("catch", (), (("full", (None,)),)),), 0, 1, 0)
        self.bad((("catch", (), (("full", ()), ("done", (SEND, None)))),), 0, 2, 1)

    def test_a_statement_is_looked_at_ahead_of_its_bodies_and_those_body_by_body(self):
        self.bad((("if", C_IS_0, (None,), None),), 0)
        self.bad((("if", None, (None,), ()),), 0)
        self.bad((("catch", (None,), (("c", ()),)),), 0)
        self.bad((("catch", (None,), (("full", ()), ("full", ()))),), 0)
        self.bad((("if", C_IS_0, (SEND, None), (None,)), None), 0, 0, 1)
        self.bad((("if", C_IS_0, (("while", C_IS_0, (None,)),), (None,)), None), 0, 0, 0, 0, 0)
        self.bad((("catch", (), (("full", (None,)), ("done", (None,)))), None), 0, 1, 0)
        self.bad((("catch", (SEND,), (("full", (SEND,)), ("done", (None,)))), None), 0, 2, 0)
        self.bad((SEND, ("while", C_IS_0, (SEND,)), None), 2)


class Judge(Right):
    def test_the_ground_is_asked_first(self):
        self.assertEqual(refusal(made_program, ((), (), ()), None), ("BadGround", (2, -1)))
        self.assertEqual(refusal(made_program, None, None), ("BadGround", -1))
        self.assertIs(is_program(((), (), ()), ()), False)

    def test_over_any_values(self):
        for thing in JUNK:
            for ground, program in ((SENDING, thing), (thing, ()), (thing, thing), (SENDING, (SEND, thing)),
                                    (SENDING, (("while", C_IS_0, (thing,)),)), (SENDING, (("while", thing, ()),)),
                                    (SENDING, (("set", "c", thing),)), (SENDING, (("catch", (), thing),)),
                                    (SENDING, (("catch", (), ((thing, ()),)),)), (SENDING, (("if", C_IS_0, (), thing),)),
                                    (SENDING, (("exit", thing),)), (SENDING, (("set", "c", ("add", thing, thing)),))):
                self.assertIs(is_program(ground, program), False)

    def test_over_deep_and_large_values(self):
        self.assertIs(is_program(SENDING, deep_body(24, ())), False)
        self.assertIs(is_program(SENDING, (("set", "c", deep_number(47)),)), False)
        self.assertIs(is_program(SENDING, (("while", deep_test(46), ()),)), False)
        self.assertIs(is_program(SENDING, ((("while", C_IS_0, (SEND,) * 40),) * 40)), False)
        self.assertIs(is_program(SENDING, (SEND,) * 2500), False)
        self.assertIs(is_program(SENDING, nested((), 49)), False)


class Placed(unittest.TestCase):
    def test_the_examples(self):
        self.assertEqual(placed(SENDING, (FULL,), (("full", (SEND,)),)), (("catch", (FULL,), (("full", (SEND,)),)),))
        self.assertEqual(placed(SENDING, (), (("done", (FULL,)),)), (("catch", (), (("done", (FULL,)),)),))
        self.assertEqual(placed(ground=SENDING, program=(), puts=()), (("catch", (), ()),))

    def test_which_error_comes_first(self):
        self.assertEqual(refusal(placed, None, None, None), ("BadGround", -1))
        self.assertEqual(refusal(placed, SENDING, None, None), ("BadProgram", (-1,)))
        self.assertEqual(refusal(placed, SENDING, (SEND, None), None), ("BadProgram", (1,)))
        self.assertEqual(refusal(placed, SENDING, (FORTY,) * 3 + (SEND,), None), ("TooMany", 121))
        self.assertEqual(refusal(placed, SENDING, deep_body(12, ()), None), ("BadPuts", 0))

    def test_wrong_puts(self):
        for puts in (None, 3, "full", [], ("full", ()), (("full",),), (("full", (), ()),), (("lost", ()),), ((None, ()),),
                     (("full", None),), (("full", (None,)),), (("full", ("done", ())),), (("full", ()), ("full", ())),
                     (("full", (SEND,) * 41),), (("full", deep_body(13, ())),), ((["full", ()]),)):
            self.assertEqual(refusal(placed, SENDING, (), puts), ("BadPuts", 0), puts)
        for thing in JUNK:
            self.assertEqual(refusal(placed, SENDING, (), (thing,)), ("BadPuts", 0))

    def test_how_many_puts(self):
        ground = ((), (), ("a", "b", "c", "d"))
        four = tuple((name, ()) for name in "badc")
        self.assertEqual(placed(ground, (), four), (("catch", (), four),))
        self.assertEqual(refusal(placed, ground, (), four + (("a", ()),)), ("BadPuts", 0))

    def test_the_whole_may_be_no_program(self):
        placed(SENDING, deep_body(11, ()), ())
        self.assertEqual(refusal(placed, SENDING, deep_body(12, ()), ()), ("BadPuts", 1))
        placed(SENDING, (), (("full", deep_body(11, ())),))
        self.assertEqual(refusal(placed, SENDING, (), (("full", deep_body(12, ())),)), ("BadPuts", 1))
        nearly = (FORTY,) * 2 + (("while", C_IS_0, (SEND,) * 38),)
        placed(SENDING, nearly, ())
        self.assertEqual(refusal(placed, SENDING, nearly, (("full", (SEND,)),)), ("BadPuts", 1))
        self.assertEqual(refusal(placed, SENDING, nearly + (SEND,), ()), ("BadPuts", 1))


if __name__ == "__main__":
    unittest.main()
