"""What a desk answers, and a desk itself, told as texts."""

from lawsleft.booktexts import entry_text
from lawsleft.grounds import price_of
from lawsleft.groundtexts import print_ground
from lawsleft.printprograms import body_text

EMPTY = "empty"


def count_text(count):
    """Return the text of a count."""
    return " ".join([str(part) for part in count]) if count else "-"


def worth_text(worth):
    """Return the text of a worth."""
    return "all" if worth is None else count_text(worth)


def prices_text(kinds, outcomes):
    """Return the text of the counts of outcomes of all states, with their prices."""
    return "; ".join([priced_text(kinds, outcome) for outcome in outcomes])


def priced_text(kinds, outcome):
    """Return the text of the count of an outcome, with its price."""
    if outcome is None:
        return "never"
    return count_text(outcome[0]) + ": " + str(price_of(kinds, outcome[0]))


def pairs_text(pairs):
    """Return the text of pairs of words."""
    return ", ".join([" ".join(pair) for pair in pairs]) if pairs else "none"


def lots_text(lots):
    """Return the text of lots of words."""
    return "; ".join([" ".join(lot) for lot in lots]) if lots else EMPTY


def entries_text(entries):
    """Return the text of the laws that stand on a desk."""
    return " / ".join(entry_rows(entries)) if entries else EMPTY


def entry_rows(entries):
    """Return for each law that stands on a desk the row that tells it."""
    return [hand + " " + entry_text(word, sides) for hand, word, sides in entries]


def rules_text(row):
    """Return the text of a row of rules."""
    return " / ".join([count_text(left) + " > " + worth_text(right) for left, right in row]) if row else EMPTY


def desk_rows(ground, entries, shelf):
    """Return the rows that tell a desk; the shelf is told as pairs of a word and its program."""
    puts = ["put " + word + " " + body_text(program) if program else "put " + word for word, program in shelf]
    return tuple([print_ground(ground)] + entry_rows(entries) + puts)
