"""The run of a program from a state."""

from lawsleft.errors import BadState
from lawsleft.expressions import number_told, test_holds
from lawsleft.grounds import is_state, nought, plus, states
from lawsleft.programs import PLAIN, made_program


class Runs:
    """The runs of one program; what a statement makes of a state is told but once.

    States are told by their numbers. What runs off its end has an outcome as if it left by the
    plain exit, for no statement leaves by that one.
    """

    def __init__(self, ground, program):
        self.whole = program
        self.none = nought(ground)
        self.kinds = [name for name, _ in ground[1]]
        self.exits = ground[2]
        self.sizes = dict(ground[0])
        self.told = [values_of(ground[0], state) for state in states(ground)]
        self.numbers = {state: number for number, state in enumerate(states(ground))}
        self.ends = {}
        self.tests = {}

    def outcome(self, at):
        """Return the outcome of the program from a state, None if it never ends."""
        return self.through(self.whole, (), at)

    def through(self, body, place, at):
        """Return the outcome of a body; place is the one of its statements, less their index."""
        end = (self.none, at, PLAIN)
        for index, statement in enumerate(body):
            end = together(end, self.behind(statement, place + (index,), end[1]))
            if end is None or end[2] != PLAIN:
                return end
        return end

    def behind(self, statement, place, at):
        """Return the outcome of the statement that has this place."""
        if (place, at) not in self.ends:
            self.ends[(place, at)] = self.one(statement, place, at)
        return self.ends[(place, at)]

    def one(self, statement, place, at):
        """Return the outcome of a statement that was not yet done from this state."""
        word = statement[0]
        if word == "set":
            return (self.none, self.moved(statement[1], statement[2], at), PLAIN)
        if word == "do":
            count = [statement[2] if kind == statement[1] else 0 for kind in self.kinds]
            return (tuple(count), at, PLAIN)
        if word == "exit":
            return (self.none, at, self.exits.index(statement[1]))
        if word == "if":
            number = 0 if self.holds(statement[1], place, at) else 1
            return self.through(statement[2 + number], place + (number,), at)
        if word == "while":
            return self.loop(statement, place, at)
        return self.caught(statement, place, at)

    def moved(self, cell, expression, at):
        """Return the number of the state in which the cell got its new value."""
        values = dict(self.told[at])
        values[cell] = number_told(expression, values) % self.sizes[cell]
        return self.numbers[tuple(values[name] for name in self.sizes)]

    def holds(self, test, place, at):
        """Whether the test of the statement that has this place holds."""
        if (place, at) not in self.tests:
            self.tests[(place, at)] = test_holds(test, self.told[at])
        return self.tests[(place, at)]

    def loop(self, statement, place, at):
        """Return the outcome of a while."""
        end = (self.none, at, PLAIN)
        met = set()
        while self.holds(statement[1], place, end[1]):
            if end[1] in met:
                return None
            met.add(end[1])
            end = together(end, self.through(statement[2], place + (0,), end[1]))
            if end is None or end[2] != PLAIN:
                return end
        return end

    def caught(self, statement, place, at):
        """Return the outcome of a catch."""
        end = self.through(statement[1], place + (0,), at)
        if end is None:
            return None
        for index, (name, body) in enumerate(statement[2]):
            if name == self.exits[end[2]]:
                return together(end, self.through(body, place + (index + 1,), end[1]))
        return end


def together(ahead, end):
    """Return the outcome of what has the outcome end, with the deeds done ahead of it."""
    if end is None:
        return None
    return (plus(ahead[0], end[0]), end[1], end[2])


def values_of(cells, state):
    """Return the values that the cells have in a state, by their names."""
    return {name: value for (name, _), value in zip(cells, state)}


def run(ground, program, state):
    """Return the outcome of a program from a state, None if the run never ends."""
    made_program(ground, program)
    if not is_state(ground, state):
        raise BadState(0)
    runs = Runs(ground, program)
    return runs.outcome(runs.numbers[state])
