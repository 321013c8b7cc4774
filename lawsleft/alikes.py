"""What outcomes are worth under a row, and which programs are alike under a book."""

from lawsleft.facts import facts
from lawsleft.normals import ask_row, everything_by, normal_by
from lawsleft.rules import row_of_facts
from lawsleft.tables import two_tables

ALL = "all"
NEVER = "never"


def outcome_worth(ground, row, outcome):
    """Return what an outcome is worth under a row."""
    ask_row(ground, row)
    return worth_by(row, outcome)


def worth_by(row, outcome):
    """Return what an outcome is worth under what surely is a row."""
    if outcome is None:
        return NEVER if everything_by(row) is None else ALL
    count, number, leaving = outcome
    end = normal_by(row, count)
    return ALL if end is None else (end, number, leaving)


def worths_by(row, outcomes):
    """Return what each of some outcomes is worth under a row."""
    return tuple([worth_by(row, outcome) for outcome in outcomes])


def count_of(outcome):
    """Return the count of an outcome, None for None."""
    return None if outcome is None else outcome[0]


def first_unlike(row, ones, twos):
    """Return the number of the first state whose two outcomes are not worth the same, None if there is none."""
    for number, (one, two) in enumerate(zip(ones, twos)):
        if one != two and worth_by(row, one) != worth_by(row, two):
            return number
    return None


def alike(book, one, two):
    """Whether two programs are alike under a book."""
    given = facts(book)
    ground = book[0]
    ones, twos = two_tables(ground, one, two)
    # Programs with the same table are alike whatever the row is, which may be long in the making.
    return ones == twos or first_unlike(row_of_facts(ground, given), ones, twos) is None
