"""The machine: it runs codes from a state and from all states, and counts the rows and the deeds."""

from lawsleft.codes import is_code
from lawsleft.errors import BadCode, BadState
from lawsleft.expressions import number_told, test_holds
from lawsleft.grounds import is_state, made_ground, nought, plus, price_of, states
from lawsleft.steps import values_of


class Machine:
    """The runs of one code; how a run goes on from a row in a state is told but once.

    A place of a run is a pair of the number of a row and that of a state. What comes of it, to the
    end, is told as a tuple: how many rows are done, the count, the state number, the exit number.
    """

    def __init__(self, ground, code):
        self.rows = code
        self.none = nought(ground)
        self.kinds = [name for name, _ in ground[1]]
        self.exits = ground[2]
        self.sizes = dict(ground[0])
        every = states(ground)
        self.told = [values_of(ground[0], state) for state in every]
        self.numbers = {state: number for number, state in enumerate(every)}
        self.ends = {}

    def end(self, number):
        """Return what comes of a run from the state of this number, None if it never ends."""
        path = []
        met = set()
        at = (0, number)
        while at not in self.ends and at not in met:
            row = self.rows[at[0]]
            if row[0] == "exit":
                self.ends[at] = (1, self.none, at[1], self.exits.index(row[1]))
            else:
                met.add(at)
                path.append(at)
                at = self.next_place(row, at)
        # A place that was met on this path has no end yet, and never gets one.
        end = self.ends.get(at)
        for place in path[::-1]:
            end = self.put_ahead(self.rows[place[0]], end)
            self.ends[place] = end
        return end

    def next_place(self, row, at):
        """Return the place to which this one leads, which has this row, no exit."""
        number, state = at
        word = row[0]
        if word == "set":
            return (number + 1, self.moved(row[1], row[2], state))
        if word == "branch" and not test_holds(row[1], self.told[state]):
            return (row[2], state)
        if word == "switch":
            return (row[2][self.told[state][row[1]]], state)
        if word == "jump":
            return (row[1], state)
        return (number + 1, state)

    def moved(self, cell, expression, state):
        """Return the number of the state in which the cell got its new value."""
        values = dict(self.told[state])
        values[cell] = number_told(expression, values) % self.sizes[cell]
        return self.numbers[tuple(values[name] for name in self.sizes)]

    def put_ahead(self, row, end):
        """Return what comes of a run that does this row ahead of what has this end."""
        if end is None:
            return None
        rows, count, state, leaving = end
        if row[0] == "deed":
            count = plus(count, tuple([row[2] if kind == row[1] else 0 for kind in self.kinds]))
        return (rows + 1, count, state, leaving)


def ask_code(ground, thing):
    """Raise the first error met if ground is no ground, or thing no code for it."""
    made_ground(ground)
    if not is_code(ground, thing):
        raise BadCode(-1)


def run_code(ground, code, state):
    """Return the outcome of a code from a state, None if the run never ends."""
    ask_code(ground, code)
    if not is_state(ground, state):
        raise BadState(0)
    machine = Machine(ground, code)
    return outcome_of(machine.end(machine.numbers[state]))


def outcome_of(end):
    """Return the outcome of what comes of a run."""
    return None if end is None else end[1:]


def code_table(ground, code):
    """Return the outcomes of a code from all states, by their numbers."""
    ask_code(ground, code)
    return outcomes_of_code(ground, code)


def outcomes_of_code(ground, code):
    """Return the outcomes of what surely is a code for the ground."""
    return tuple([outcome_of(end) for end in ends_of_code(ground, code)])


def ends_of_code(ground, code):
    """Return what comes of the runs of a code from all states."""
    machine = Machine(ground, code)
    return [machine.end(number) for number in range(len(machine.told))]


def meter(ground, code):
    """Return for each state how many rows are done and what the deeds cost, None where the run never ends."""
    ask_code(ground, code)
    ends = ends_of_code(ground, code)
    return tuple([None if end is None else (end[0], price_of(ground[1], end[1])) for end in ends])
