"""Papers that tell why two programs are alike under a book, or why they are not."""

from lawsleft.alikes import count_of, first_unlike
from lawsleft.facts import facts
from lawsleft.proofs import Proofs
from lawsleft.tables import two_tables


def why(book, one, two):
    """Return "yes" and a paper that two programs are alike, or "no" and a paper that they are not."""
    given = facts(book)
    ground = book[0]
    ones, twos = two_tables(ground, one, two)
    if ones == twos:
        return ("yes", ((), ((),) * len(ones)))
    proofs = Proofs(ground, given)
    number = first_unlike(proofs.row_made, ones, twos)
    if number is not None:
        return ("no", (number, proofs.row_made))
    entries = [entry_of(proofs, v, w) for v, w in zip(ones, twos)]
    return ("yes", proofs.with_lemmas(entries))


def entry_of(proofs, one, two):
    """Return the entry of two outcomes that are worth the same."""
    if one == two:
        return ()
    return proofs.entry(count_of(one), count_of(two))
