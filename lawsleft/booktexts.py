"""Laws and entries of books, told and read as texts."""

from lawsleft.errors import BadLaw, BadName
from lawsleft.facts import are_sides
from lawsleft.grounds import is_name, made_ground
from lawsleft.printprograms import body_text
from lawsleft.readprograms import read_whole_program
from lawsleft.words import Reading


def read_law(ground, text):
    """Return the law that a text tells."""
    made_ground(ground)
    reading = Reading(text)
    sides = read_sides(ground, reading)
    reading.finish()
    return sides


def read_sides(ground, reading):
    """Return the law whose text comes."""
    one = read_whole_program(ground, reading)
    reading.take_mark(("~",))
    return (one, read_whole_program(ground, reading))


def print_law(ground, sides):
    """Return the text of a law."""
    ask_sides(ground, sides)
    return sides_text(sides)


def ask_sides(ground, thing):
    """Raise the first error met if ground is no ground, or thing no law of it."""
    made_ground(ground)
    if not are_sides(ground, thing):
        raise BadLaw(0)


def sides_text(sides):
    """Return the text of what surely is a law."""
    one, two = sides
    return " ".join([part for part in (body_text(one), "~", body_text(two)) if part])


def read_entry(ground, text):
    """Return the name and the law that a text tells."""
    made_ground(ground)
    reading = Reading(text)
    word, _, sides = read_named_sides(ground, reading)
    reading.finish()
    return (word, sides)


def read_named_sides(ground, reading):
    """Return the name, its place and the law of the entry whose text comes."""
    reading.take_mark(("law",))
    word, place = reading.take_name()
    reading.take_mark((":",))
    return word, place, read_sides(ground, reading)


def print_entry(ground, word, sides):
    """Return the text of a law that has a name."""
    made_ground(ground)
    if not is_name(word):
        raise BadName(word)
    ask_sides(ground, sides)
    return entry_text(word, sides)


def entry_text(word, sides):
    """Return the text of what surely is a law that has a name."""
    return "law " + word + ": " + sides_text(sides)
