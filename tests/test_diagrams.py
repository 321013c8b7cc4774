"""Points [42], [43] and [44]: leaves, diagrams and their nodes."""

import itertools
import random
import unittest

from lawsleft.diagrams import diagram, leaf_at, nodes, walked
from lawsleft.grounds import many_states, states
from lawsleft.tables import table
from tests.samples import BARE, JUNK, LOGGING, SENDING, WIDE, Chance, refusal

TWO_EXITS = ((("c", 2),), (("send", 1),), ("done", "other"))
SIZES = ((("a", 2), ("b", 1), ("c", 3)), (("k", 2), ("m", 1)), ("done", "full"))
FOUR = ((("a", 2), ("b", 2), ("c", 2), ("d", 8)), (("k", 2),), ("done", "full"))
EXAMPLE = (((2,), 1, 0), ((1,), 1, 0))


def send_leaf(n, move, leaving=0):
    return "leaf", (n,), (move,), leaving


def some_outcomes(ground, seed, many):
    """Return outcomes of all states, of so many unlike ones and None."""
    chance = random.Random(seed)
    few = [(tuple(chance.randint(0, 3) for _ in ground[1]), chance.randrange(many_states(ground)),
            chance.randrange(len(ground[2]))) for _ in range(many)] + [None]
    return tuple(chance.choice(few) for _ in range(many_states(ground)))


class Leaves(unittest.TestCase):
    def test_moves(self):
        self.assertEqual(leaf_at(SENDING, ((2,), 1, 0), 0), ("leaf", (2,), (1,), 0))
        self.assertEqual(leaf_at(SENDING, ((2,), 1, 0), 1), ("leaf", (2,), (None,), 0))
        self.assertEqual(leaf_at(ground=SENDING, outcome=((0,), 0, 1), number=1), ("leaf", (0,), (0,), 1))
        # The states of WIDE are numbered (0, 0), (0, 1), (1, 0), (1, 1), (2, 0), (2, 1).
        self.assertEqual(leaf_at(WIDE, ((0, 7), 3, 2), 5), ("leaf", (0, 7), (1, None), 2))
        self.assertEqual(leaf_at(WIDE, ((0, 7), 3, 2), 2), ("leaf", (0, 7), (None, 1), 2))
        self.assertEqual(leaf_at(WIDE, ((0, 7), 0, 0), 5), ("leaf", (0, 7), (0, 0), 0))

    def test_never(self):
        for ground in (SENDING, BARE, LOGGING):
            self.assertEqual(leaf_at(ground, None, 0), ("never",))

    def test_without_cells_and_kinds(self):
        self.assertEqual(leaf_at(BARE, ((), 0, 0), 0), ("leaf", (), (), 0))
        self.assertEqual(leaf_at(LOGGING, ((2, 1), 0, 0), 0), ("leaf", (2, 1), (), 0))

    def test_grounds(self):
        self.assertEqual(refusal(leaf_at, ((), (), ()), None, 0), ("BadGround", (2, -1)))
        for thing in JUNK:
            self.assertEqual(refusal(leaf_at, thing, None, 0)[0], "BadGround")


class Diagrams(unittest.TestCase):
    def told(self, ground, outcomes, expected):
        self.assertEqual(diagram(ground, outcomes), expected)
        self.assertEqual(tuple(walked(ground, expected, number) for number in range(len(outcomes))), outcomes)

    def test_the_example(self):
        self.told(TWO_EXITS, EXAMPLE, ("test", 0, (send_leaf(2, 1), send_leaf(1, None))))
        self.assertEqual(diagram(ground=TWO_EXITS, outcomes=EXAMPLE), diagram(TWO_EXITS, EXAMPLE))
        self.assertEqual(walked(ground=TWO_EXITS, diagram=send_leaf(4, 0), number=1), ((4,), 0, 0))

    def test_a_leaf_alone(self):
        self.told(SENDING, (((2,), 0, 0), ((2,), 1, 0)), send_leaf(2, None))
        self.told(SENDING, (None, None), ("never",))
        self.told(BARE, (((), 0, 0),), ("leaf", (), (), 0))
        self.told(BARE, (None,), ("never",))
        self.told(LOGGING, (((3, 4), 0, 0),), ("leaf", (3, 4), (), 0))

    def test_a_move_to_the_value_that_the_cell_has_already(self):
        # One state is moved to 1, the other is there and stays: these are unlike leaves.
        self.told(SENDING, (((0,), 1, 1), ((0,), 1, 1)), ("test", 0, (send_leaf(0, 1, 1), send_leaf(0, None, 1))))
        self.told(SENDING, (((0,), 0, 0), ((0,), 0, 0)), ("test", 0, (send_leaf(0, None), send_leaf(0, 0))))
        self.told(SENDING, (((0,), 1, 0), ((0,), 0, 0)), ("test", 0, (send_leaf(0, 1), send_leaf(0, 0))))

    def test_some_never_end(self):
        self.told(SENDING, (None, ((0,), 1, 1)), ("test", 0, (("never",), send_leaf(0, None, 1))))

    def test_cells_that_make_no_difference(self):
        stay = tuple(((0, 0), number, 0) for number in range(6))
        self.told(WIDE, stay, ("leaf", (0, 0), (None, None), 0))
        odd = tuple(((number % 2, 0), number, 0) for number in range(6))
        self.told(WIDE, odd, ("test", 1, (("leaf", (0, 0), (None, None), 0), ("leaf", (1, 0), (None, None), 0))))
        third = tuple(((number // 2, 0), number, 0) for number in range(6))
        self.told(WIDE, third, ("test", 0, tuple(("leaf", (n, 0), (None, None), 0) for n in range(3))))
        last = stay[:5] + (None,)
        leaf = ("leaf", (0, 0), (None, None), 0)
        self.told(WIDE, last, ("test", 0, (leaf, leaf, ("test", 1, (leaf, ("never",))))))

    def test_cells_of_size_1(self):
        outcomes = tuple(((number, 0), number, 0) for number in range(6))
        leaves = [("leaf", (number, 0), (None, None, None), 0) for number in range(6)]
        self.told(SIZES, outcomes, ("test", 0, (("test", 2, tuple(leaves[:3])), ("test", 2, tuple(leaves[3:])))))
        ground = ((("a", 1),), (), ("done",))
        self.told(ground, (((), 0, 0),), ("leaf", (), (None,), 0))

    def test_as_chance_has_it(self):
        for seed in range(120):
            ground = (WIDE, SIZES, FOUR, SENDING, LOGGING)[seed % 5]
            outcomes = some_outcomes(ground, seed, 1 + seed % 3)
            made = diagram(ground, outcomes)
            self.told(ground, outcomes, made)
            self.look(ground, made, -1)
            self.assertEqual(made, self.plainly(ground, outcomes, ()))
            program = Chance(ground, seed).body(3) if ground[0] else ()
            self.told(ground, table(ground, program), diagram(ground, table(ground, program)))

    def look(self, ground, part, ahead):
        """Look whether the parts of a diagram test cells in their order, and never for nothing."""
        if part[0] == "test":
            self.assertGreater(part[1], ahead)
            self.assertEqual(len(part[2]), ground[0][part[1]][1])
            self.assertGreater(len(set(part[2])), 1)
            for other in part[2]:
                self.look(ground, other, part[1])

    def plainly(self, ground, outcomes, told):
        """Return the diagram as the document tells it, from the first cell on."""
        if len(told) == len(ground[0]):
            number = states(ground).index(told)
            return leaf_at(ground, outcomes[number], number)
        parts = tuple(self.plainly(ground, outcomes, told + (value,)) for value in range(ground[0][len(told)][1]))
        return parts[0] if len(set(parts)) == 1 else ("test", len(told), parts)

    def test_unlike_outcomes_have_unlike_diagrams(self):
        ends = [None] + [((n,), number, leaving) for n in (0, 1) for number in (0, 1) for leaving in (0, 1)]
        made = {diagram(SENDING, pair): pair for pair in itertools.product(ends, ends)}
        self.assertEqual(len(made), len(ends) ** 2)


class Nodes(unittest.TestCase):
    def test_the_example(self):
        made = diagram(TWO_EXITS, EXAMPLE)
        self.assertEqual(nodes(made), (made, send_leaf(2, 1), send_leaf(1, None)))

    def test_leaves_alone(self):
        self.assertEqual(nodes(("never",)), (("never",),))
        self.assertEqual(nodes(diagram=send_leaf(1, None)), (send_leaf(1, None),))

    def test_tests_by_their_cells_then_leaves(self):
        one, two, three = [("leaf", (n, 0), (None, None), 0) for n in range(3)]
        inner, other = ("test", 1, (three, ("never",))), ("test", 1, (one, three))
        whole = ("test", 0, (two, inner, other))
        self.assertEqual(nodes(whole), (whole, inner, other, two, three, ("never",), one))
        whole = ("test", 0, (other, two, inner))
        self.assertEqual(nodes(whole), (whole, other, inner, one, three, two, ("never",)))

    def test_equal_parts_stand_once(self):
        one, two = send_leaf(1, None), send_leaf(2, None)
        inner = ("test", 1, (one, two))
        whole = ("test", 0, (inner, two, inner))
        self.assertEqual(nodes(whole), (whole, inner, one, two))
        deep = ("test", 0, (("test", 1, (("test", 2, (two, one)), one)), ("test", 2, (two, one))))
        self.assertEqual(nodes(deep), (deep, deep[2][0], deep[2][1], two, one))

    def test_the_order_of_cells_goes_ahead_of_that_of_meeting(self):
        one, two = send_leaf(1, None), send_leaf(2, None)
        late, early = ("test", 2, (one, two)), ("test", 1, (("test", 2, (two, one)), two))
        whole = ("test", 0, (late, early))
        self.assertEqual(nodes(whole), (whole, early, late, early[2][0], one, two))

    def test_as_chance_has_it(self):
        for seed in range(60):
            ground = (WIDE, SIZES, FOUR)[seed % 3]
            made = diagram(ground, some_outcomes(ground, seed, 1 + seed % 4))
            met = []
            self.meet(made, met)
            tests = [part for part in met if part[0] == "test"]
            expected = [part for place in range(4) for part in tests if part[1] == place]
            expected += [part for part in met if part[0] != "test"]
            self.assertEqual(nodes(made), tuple(dict.fromkeys(expected)))

    def meet(self, part, met):
        met.append(part)
        if part[0] == "test":
            for other in part[2]:
                self.meet(other, met)


class Wrong(unittest.TestCase):
    def test_outcomes(self):
        good = ((2,), 1, 1)
        for thing in JUNK + ((), (good,), (good, good, good), [good, good]):
            if thing != (None, None):
                expected = -1 if not isinstance(thing, tuple) or len(thing) != 2 else 0
                self.assertEqual(refusal(diagram, SENDING, thing), ("BadOutcomes", expected))
        for thing in JUNK[1:] + ((), ((2,), 1), ((2,), 2, 1), ((2,), 1, 2), ((2,), -1, 1), ((2,), 1, -1), ((-2,), 1, 1),
                                 ((2,), True, 1), ((2,), 1, False), ((True,), 1, 1), ((2, 2), 1, 1), [(2,), 1, 1]):
            self.assertEqual(refusal(diagram, SENDING, (thing, thing)), ("BadOutcomes", 0))
            self.assertEqual(refusal(diagram, SENDING, (good, thing)), ("BadOutcomes", 1))
            self.assertEqual(refusal(diagram, SENDING, (None, thing)), ("BadOutcomes", 1))

    def test_grounds_come_first(self):
        for call in (diagram, lambda ground, thing: walked(ground, thing, 0)):
            self.assertEqual(refusal(call, ((), (), ()), ("never",)), ("BadGround", (2, -1)))
            for thing in JUNK:
                self.assertEqual(refusal(call, thing, ("never",))[0], "BadGround")

    def test_nothing_is_changed(self):
        outcomes = some_outcomes(FOUR, 3, 3)
        copy = eval(repr(outcomes))
        self.assertEqual(diagram(FOUR, outcomes), diagram(FOUR, copy))
        self.assertEqual(outcomes, copy)
        made = diagram(FOUR, outcomes)
        copy = eval(repr(made))
        self.assertEqual(nodes(made), nodes(copy))
        self.assertEqual(made, copy)


if __name__ == "__main__":
    unittest.main()
