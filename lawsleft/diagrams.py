"""Diagrams: outcomes of all states as tests of cells, with leaves where no cell makes a difference any more."""

from lawsleft.grounds import states
from lawsleft.tables import ask_outcomes

LEAF = "leaf"
TEST = "test"
NEVER_LEAF = ("never",)


def leaf_at(ground, outcome, number):
    """Return the leaf of an outcome from the state of a number."""
    return leaf_between(states(ground), outcome, number)


def leaf_between(every, outcome, number):
    """Return the leaf of an outcome from the state of a number; every state is told."""
    if outcome is None:
        return NEVER_LEAF
    count, behind, leaving = outcome
    moves = tuple([None if value == start else value for start, value in zip(every[number], every[behind])])
    return (LEAF, count, moves, leaving)


def diagram(ground, outcomes):
    """Return the diagram of outcomes of all states."""
    ask_outcomes(ground, outcomes)
    return diagram_of(ground, outcomes)


def diagram_of(ground, outcomes):
    """Return the diagram of what surely are outcomes of all states of the ground."""
    every = states(ground)
    parts = [leaf_between(every, outcome, number) for number, outcome in enumerate(outcomes)]
    # From the last cell on, the parts that stand side by side are those for its values.
    for place in range(len(ground[0]) - 1, -1, -1):
        size = ground[0][place][1]
        parts = [tested(place, tuple(parts[start:start + size])) for start in range(0, len(parts), size)]
    return parts[0]


def tested(place, parts):
    """Return the test of a cell with these diagrams, or the one diagram that all of them are."""
    if all([part == parts[0] for part in parts]):
        return parts[0]
    return (TEST, place, parts)


def walked(ground, diagram, number):
    """Return the outcome that a diagram tells from the state of a number."""
    every = states(ground)
    start = every[number]
    part = diagram
    while part[0] == TEST:
        part = part[2][start[part[1]]]
    if part == NEVER_LEAF:
        return None
    _, count, moves, leaving = part
    behind = tuple([value if move is None else move for value, move in zip(start, moves)])
    return (count, every.index(behind), leaving)


def nodes(diagram):
    """Return the unlike parts of a diagram: the tests by the place of their cell, then the leaves."""
    tests, leaves = [], []
    waiting = [diagram]
    while waiting:
        part = waiting.pop()
        if part[0] == TEST:
            # What is met first is taken from the end.
            waiting.extend(part[2][::-1])
        met = tests if part[0] == TEST else leaves
        if part not in met:
            met.append(part)
    return tuple(sorted(tests, key=place_of_test) + leaves)


def place_of_test(part):
    """Return the place of the cell that a test is about."""
    return part[1]
