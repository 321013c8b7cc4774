"""What holds in both of two books, and the paper of it."""

from lawsleft.facts import facts_if_book, facts_of_all
from lawsleft.grounds import is_pair
from lawsleft.joins import facts_of_both
from lawsleft.letters import is_letter_row, kept_of, letter_pairs, letter_row
from lawsleft.normals import is_reduced, normal_by, rules_meet
from lawsleft.paths import entry_leads, lemmas_right, sides_of_all
from lawsleft.proofs import Proofs


def meet_row(one, two):
    """Return the row by which two worths have one normal exactly if they are like by both books."""
    ones, twos = facts_of_both(one, two)
    kinds = one[0][1]
    return kept_of(kinds, letter_row(kinds, facts_of_all(ones), facts_of_all(twos)))


def meet_paper(one, two):
    """Return the row in letters of two books, and for each book why the rules of meet_row hold in it."""
    ones, twos = facts_of_both(one, two)
    ground = one[0]
    ones, twos = facts_of_all(ones), facts_of_all(twos)
    row = letter_row(ground[1], ones, twos)
    kept = kept_of(ground[1], row)
    return (row, part_of_paper(ground, ones, kept), part_of_paper(ground, twos, kept))


def part_of_paper(ground, given, kept):
    """Return lemmas and entries that show the rules of a row by some facts."""
    proofs = Proofs(ground, given)
    return proofs.with_lemmas([proofs.entry(left, right) for left, right in kept])


def meet_right(one, two, paper):
    """Whether paper tells what holds in both of two books."""
    ones, twos = facts_if_book(one), facts_if_book(two)
    if ones is None or twos is None or one[0] != two[0]:
        return False
    if not isinstance(paper, tuple) or len(paper) != 3:
        return False
    ground = one[0]
    row, part, other_part = paper
    if not is_letter_row(ground[1], row):
        return False
    kept = kept_of(ground[1], row)
    if not part_right(ground, ones, kept, part) or not part_right(ground, twos, kept, other_part):
        return False
    return is_reduced(row) and all_meet(row, letter_pairs(ground[1], ones, twos)) and rules_meet(row)


def all_meet(row, pairs):
    """Whether each of some pairs of words comes to one normal."""
    for v, w in pairs:
        if normal_by(row, v) != normal_by(row, w):
            return False
    return True


def part_right(ground, given, kept, part):
    """Whether part is a pair of lemmas by some facts, and of entries that show the rules of a row."""
    if not is_pair(part):
        return False
    lemmas, entries = part
    if not isinstance(entries, tuple) or len(entries) != len(kept) or not lemmas_right(ground, given, lemmas):
        return False
    sides = sides_of_all(given, lemmas)
    for (left, right), entry in zip(kept, entries):
        if not isinstance(entry, tuple) or not entry_leads(sides, left, right, entry):
            return False
    return True
