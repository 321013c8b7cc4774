"""Plain forms: the cheapest outcomes that are alike to a program's, their prices, and what they save."""

from lawsleft.facts import facts
from lawsleft.grounds import price_of
from lawsleft.normals import everything_by, normal_by
from lawsleft.programs import PLAIN, made_program
from lawsleft.rules import row_of_facts
from lawsleft.tables import all_outcomes, ask_outcomes, two_tables


def plain_form(book, program):
    """Return for each state the cheapest of all outcomes that are alike to the program's."""
    _, plain = own_and_plain(book, program)
    return plain


def own_and_plain(book, program):
    """Return the outcomes of a program from all states, and its plain form."""
    given = facts(book)
    ground = book[0]
    made_program(ground, program)
    outcomes = all_outcomes(ground, program)
    return outcomes, plain_outcomes(row_of_facts(ground, given), outcomes)


def plain_outcomes(row, outcomes):
    """Return the cheapest outcomes that are alike to those of all states by a row."""
    least = everything_by(row)
    return tuple([plain_outcome(row, least, outcome, number) for number, outcome in enumerate(outcomes)])


def plain_outcome(row, least, outcome, number):
    """Return the cheapest outcome that is alike to one from the state of this number; least is everything."""
    if outcome is not None:
        count = normal_by(row, outcome[0])
        if count is not None:
            return (count,) + outcome[1:]
    if least is None:
        return None
    # Any state and any exit will do behind everything; to stay and to run off the end takes no rows.
    return (least, number, PLAIN)


def prices(ground, outcomes):
    """Return the price of the count of each of the outcomes of all states, None for None."""
    ask_outcomes(ground, outcomes)
    return tuple([price_of_outcome(ground[1], outcome) for outcome in outcomes])


def price_of_outcome(kinds, outcome):
    """Return the price of the count of an outcome, None for None."""
    return None if outcome is None else price_of(kinds, outcome[0])


def saved(book, program):
    """Return for each state how much more the program costs than its plain form, None where it never ends."""
    outcomes, plain = own_and_plain(book, program)
    kinds = book[0][1]
    return tuple([
        None if own is None else price_of(kinds, own[0]) - price_of(kinds, least[0])
        for own, least in zip(outcomes, plain)
    ])


def parting_state(book, one, two):
    """Return the least number of a state at which the plain forms of two programs differ, None if there is none."""
    given = facts(book)
    ground = book[0]
    ones, twos = two_tables(ground, one, two)
    if ones == twos:
        return None
    row = row_of_facts(ground, given)
    for number, (v, w) in enumerate(zip(plain_outcomes(row, ones), plain_outcomes(row, twos))):
        if v != w:
            return number
    return None
