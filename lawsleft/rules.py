"""The row of a book, and where it comes from."""

from lawsleft.completion import Making, needed_lemmas
from lawsleft.facts import facts


def rules(book):
    """Return the one row of a book."""
    row, _ = making_of(book).finished()
    return row


def derivation(book):
    """Return lemmas by the facts of a book, and the number of the one that shows each rule of its row."""
    making = making_of(book)
    _, numbers = making.finished()
    return needed_lemmas(making.many_facts, making.lemmas, numbers)


def making_of(book):
    """Return the row of a book in the making, with nothing left to be looked at."""
    given = facts(book)
    return Making(book[0], given)
