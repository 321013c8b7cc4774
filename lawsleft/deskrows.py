"""Rows of a desk: read from texts as tuples of a word and what it is said of, then done or asked."""

from lawsleft.booktexts import read_named_sides, read_sides
from lawsleft.codetexts import print_code
from lawsleft.desktexts import entries_text, lots_text, pairs_text, prices_text, rules_text
from lawsleft.errors import BadText
from lawsleft.readprograms import read_whole_program
from lawsleft.words import Reading

BARE_ROWS = ("classes", "book", "rules")
ROWS_OF_THEIR_OWN = ("put", "drop", "alike", "code", "cost", "costs", "classes", "book", "rules")
DEEDS = ("say", "strike", "undo", "redo", "put", "drop")


def read_row(ground, text):
    """Return what a row says."""
    reading = Reading(text)
    word, _ = reading.take_name()
    if word in ROWS_OF_THEIR_OWN:
        told = read_own_row(ground, reading, word)
    else:
        told = read_deed(ground, reading, word)
    reading.finish()
    return told


def read_own_row(ground, reading, first):
    """Return what a row says that begins with a word of its own, which is read."""
    if first in BARE_ROWS:
        return (first,)
    if first == "costs":
        return (first, read_sides(ground, reading))
    word, _ = reading.take_name()
    if first == "put":
        return (first, word, read_whole_program(ground, reading))
    if first == "alike":
        other, _ = reading.take_name()
        return (first, word, other)
    return (first, word)


def read_deed(ground, reading, hand):
    """Return what the row of a hand says; the hand is read already."""
    deed, place = reading.take_name()
    if deed == "undo" or deed == "redo":
        return (deed, hand)
    if deed != "say" and deed != "strike":
        raise BadText(place)
    word, _ = reading.take_name()
    if deed == "strike":
        return (deed, hand, word)
    return (deed, hand, word, read_sides(ground, reading))


def read_kept_row(ground, text):
    """Return what a row says that tells a law or a program of a desk, and the place of its word."""
    reading = Reading(text)
    first, _ = reading.take_name()
    if reading.comes(("law",)):
        word, place, sides = read_named_sides(ground, reading)
        told = ("say", first, word, sides)
    elif first == "put":
        word, place = reading.take_name()
        told = ("put", word, read_whole_program(ground, reading))
    else:
        raise BadText(reading.place())
    reading.finish()
    return told, place


def answer(desk, told):
    """Do or ask at a desk what a row says, and return the answer."""
    word, rest = told[0], told[1:]
    if word in DEEDS:
        do_deed(desk, word, rest)
        return "ok"
    if word == "alike":
        return "yes" if desk.alike(rest[0], rest[1]) else "no"
    if word == "code":
        return print_code(desk.ground, desk.code(rest[0]))
    if word == "cost":
        return prices_text(desk.ground[1], desk.cheapest(rest[0]))
    if word == "costs":
        return pairs_text(desk.costs(rest[0]))
    if word == "classes":
        return lots_text(desk.classes())
    if word == "book":
        return entries_text(desk.entries())
    return rules_text(desk.rules())


def do_deed(desk, word, rest):
    """Do a deed of this word at a desk; the rest is what it is done with."""
    if word == "say":
        desk.say(rest[0], rest[1], rest[2])
    elif word == "strike":
        desk.strike(rest[0], rest[1])
    elif word == "undo":
        desk.undo(rest[0])
    elif word == "redo":
        desk.redo(rest[0])
    elif word == "put":
        desk.put(rest[0], rest[1])
    else:
        desk.drop(rest[0])
