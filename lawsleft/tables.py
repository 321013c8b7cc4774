"""The outcomes of programs from all states."""

from lawsleft.errors import BadOutcomes
from lawsleft.grounds import is_count_of, is_place_in, many_states
from lawsleft.programs import made_program
from lawsleft.steps import Runs


def table(ground, program):
    """Return the outcomes of a program from all states, by their numbers."""
    made_program(ground, program)
    return all_outcomes(ground, program)


def all_outcomes(ground, program):
    """Return the outcomes of what surely is a program of the ground."""
    runs = Runs(ground, program)
    return tuple([runs.outcome(at) for at in range(many_states(ground))])


def same_table(ground, one, two):
    """Whether two programs have the same outcomes from all states."""
    ones, twos = two_tables(ground, one, two)
    return ones == twos


def two_tables(ground, one, two):
    """Return the tables of two programs, both of which are looked at first."""
    made_program(ground, one)
    made_program(ground, two)
    return all_outcomes(ground, one), all_outcomes(ground, two)


def ask_outcomes(ground, thing):
    """Raise the first error met if ground is no ground, or thing no outcomes of all its states."""
    many = many_states(ground)
    if not isinstance(thing, tuple) or len(thing) != many:
        raise BadOutcomes(-1)
    for number, outcome in enumerate(thing):
        if outcome is not None and not is_outcome(ground, many, outcome):
            raise BadOutcomes(number)


def is_outcome(ground, many, thing):
    """Whether thing is a triple of a count, the number of one of so many states, and the number of an exit."""
    if not isinstance(thing, tuple) or len(thing) != 3 or not is_count_of(ground[1], thing[0]):
        return False
    _, number, leaving = thing
    return is_place_in(many, number) and is_place_in(len(ground[2]), leaving)
