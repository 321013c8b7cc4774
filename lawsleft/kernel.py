"""The judges of papers: whether two programs are alike under a book, or are not."""

from lawsleft.alikes import count_of, worth_by
from lawsleft.facts import facts_if_book
from lawsleft.grounds import is_pair, is_place_in, many_states
from lawsleft.normals import row_right
from lawsleft.paths import entry_leads, lemmas_right, sides_of_all
from lawsleft.programs import is_program
from lawsleft.tables import all_outcomes


def yes_right(book, one, two, paper):
    """Whether paper is one that two programs are alike under a book."""
    given = facts_judged(book, one, two)
    if given is None or not is_pair(paper):
        return False
    ground = book[0]
    lemmas, entries = paper
    if not isinstance(entries, tuple) or len(entries) != many_states(ground):
        return False
    if not lemmas_right(ground, given, lemmas):
        return False
    sides = sides_of_all(given, lemmas)
    ones, twos = all_outcomes(ground, one), all_outcomes(ground, two)
    return all([entry_right(sides, v, w, entry) for v, w, entry in zip(ones, twos, entries)])


def facts_judged(book, one, two):
    """Return the facts of a book, None if it is none, or if one of the two is no program of its ground."""
    given = facts_if_book(book)
    if given is None or not is_program(book[0], one) or not is_program(book[0], two):
        return None
    return given


def entry_right(sides, one, two, entry):
    """Whether entry tells why two outcomes are alike, by facts and right lemmas that have these sides."""
    if not isinstance(entry, tuple):
        return False
    if one == two or entry == ():
        return one == two and entry == ()
    if one is None or two is None:
        # The path of the other one leads to None, which it can do only if some fact is an "all".
        return entry_leads(sides, count_of(one), count_of(two), entry)
    if entry[0] == "like" and one[1:] != two[1:]:
        return False
    return entry_leads(sides, one[0], two[0], entry)


def no_right(book, one, two, paper):
    """Whether paper is one that two programs are not alike under a book."""
    given = facts_judged(book, one, two)
    if given is None or not is_pair(paper):
        return False
    ground = book[0]
    number, row = paper
    if not is_place_in(many_states(ground), number) or not row_right(ground, given, row):
        return False
    v, w = all_outcomes(ground, one)[number], all_outcomes(ground, two)[number]
    return worth_by(row, v) != worth_by(row, w)
