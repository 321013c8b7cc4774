"""The row of a book, and where it comes from."""

from lawsleft.completion import Making, needed_lemmas
from lawsleft.facts import facts


def rules(book):
    """Return the one row of a book."""
    given = facts(book)
    return row_of_facts(book[0], given)


def row_of_facts(ground, given):
    """Return the one row of some facts of what surely is a ground."""
    row, _ = Making(ground, given).finished()
    return row


def derivation(book):
    """Return lemmas by the facts of a book, and the number of the one that shows each rule of its row."""
    given = facts(book)
    making = Making(book[0], given)
    _, numbers = making.finished()
    lemmas, new = needed_lemmas(making.many_facts, making.lemmas, numbers)
    return lemmas, tuple([new[number] for number in numbers])
