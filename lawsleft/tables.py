"""The outcomes of programs from all states."""

from lawsleft.grounds import many_states
from lawsleft.programs import made_program
from lawsleft.steps import Runs


def table(ground, program):
    """Return the outcomes of a program from all states, by their numbers."""
    made_program(ground, program)
    return all_outcomes(ground, program)


def all_outcomes(ground, program):
    """Return the outcomes of what surely is a program of the ground."""
    runs = Runs(ground, program)
    return tuple([runs.outcome(at) for at in range(many_states(ground))])


def same_table(ground, one, two):
    """Whether two programs have the same outcomes from all states."""
    made_program(ground, one)
    made_program(ground, two)
    return all_outcomes(ground, one) == all_outcomes(ground, two)
