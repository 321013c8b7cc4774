"""Books side by side, the book of two books, and what a law costs."""

from lawsleft.alikes import worths_by
from lawsleft.errors import BadProgram, TooMany, Unlike
from lawsleft.facts import MOST_LAWS, facts, facts_of_all, facts_of_each
from lawsleft.normals import sides_meet
from lawsleft.programs import made_program
from lawsleft.rules import row_of_facts
from lawsleft.tables import all_outcomes


def facts_of_both(one, two):
    """Return the facts of each law of two books of one ground, or raise the first error met."""
    ones = facts_of_each(one)
    twos = facts_of_each(two)
    if one[0] != two[0]:
        raise Unlike(0)
    return ones, twos


def implies(one, two):
    """Whether all that is alike under the second book is alike under the first."""
    ones, twos = facts_of_both(one, two)
    row = row_of_facts(one[0], facts_of_all(ones))
    return first_that_fails(row, twos) is None


def first_that_fails(row, found):
    """Return the index of the first law of whose facts one does not hold by a row, None if there is none."""
    for index, told in enumerate(found):
        if not all([sides_meet(row, fact) for fact in told]):
            return index
    return None


def same_books(one, two):
    """Whether two books make the same programs alike."""
    return parting(one, two) is None


def parting(one, two):
    """Return which book, 1 for the second, has the first law that does not hold under the other one, and its index."""
    ones, twos = facts_of_both(one, two)
    row, other_row = row_of_facts(one[0], facts_of_all(ones)), row_of_facts(two[0], facts_of_all(twos))
    if row == other_row:
        return None
    index = first_that_fails(row, twos)
    if index is not None:
        return (1, index)
    return (0, first_that_fails(other_row, ones))


def joined(one, two):
    """Return the book with the laws of both books."""
    facts_of_both(one, two)
    laws = one[1] + two[1]
    if len(laws) > MOST_LAWS:
        raise TooMany(len(laws))
    return (one[0], laws)


def costs(book, sides, programs):
    """Return the pairs of indices of the programs that would become alike by one law more."""
    given = facts(book)
    ground, laws = book
    more = facts((ground, laws + (sides,)))
    if not isinstance(programs, tuple):
        raise BadProgram((-1,))
    for program in programs:
        made_program(ground, program)
    tables = [all_outcomes(ground, program) for program in programs]
    now = numbers_of_worths(row_of_facts(ground, given), tables)
    then = numbers_of_worths(row_of_facts(ground, more), tables)
    many = len(programs)
    return tuple([(i, j) for i in range(many) for j in range(i + 1, many) if then[i] == then[j] and now[i] != now[j]])


def numbers_of_worths(row, tables):
    """Return a number for each table, the same one for tables that are worth the same."""
    numbers, found = {}, []
    for outcomes in tables:
        worths = worths_by(row, outcomes)
        if worths not in numbers:
            numbers[worths] = len(numbers)
        found.append(numbers[worths])
    return found
