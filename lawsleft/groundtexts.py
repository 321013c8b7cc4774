"""Grounds, told and read as texts."""

from lawsleft.errors import BadNumber, TooMany, Twice
from lawsleft.grounds import CELLS, EXITS, GREATEST_NUMBERS, MOST_ENTRIES, MOST_STATES, made_ground, states_of_cells
from lawsleft.words import NAME, Reading

PART_WORDS = ("cells", "deeds", "exits")


def read_ground(text):
    """Return the ground that a text tells."""
    reading = Reading(text)
    ahead = []
    parts = []
    for part, word in enumerate(PART_WORDS):
        if part > 0:
            reading.take_mark((";",))
        reading.take_mark((word,))
        parts.append(read_entries(reading, part, ahead))
    reading.finish()
    return tuple(parts)


def read_entries(reading, part, ahead):
    """Return the entries of a part of a ground; their names are put behind those that stand further left."""
    found = []
    if part != EXITS and not reading.comes_one_of(NAME):
        return ()
    found.append(read_entry_of(reading, part, found, ahead))
    while reading.comes((",",)):
        reading.take()
        found.append(read_entry_of(reading, part, found, ahead))
    return tuple(found)


def read_entry_of(reading, part, found, ahead):
    """Return one more entry of a part in which such ones are found already."""
    name, place = reading.take_name()
    if len(found) == MOST_ENTRIES[part]:
        raise TooMany(place)
    if name in ahead:
        raise Twice(place)
    ahead.append(name)
    if part == EXITS:
        return name
    number, place = reading.take_number()
    if not 1 <= number <= GREATEST_NUMBERS[part]:
        raise BadNumber(place)
    if part == CELLS and states_of_cells(found + [(name, number)]) > MOST_STATES:
        raise TooMany(place)
    return (name, number)


def print_ground(ground):
    """Return the text of a ground."""
    made_ground(ground)
    cells, kinds, exits = ground
    told = (numbered(cells), numbered(kinds), exits)
    return "; ".join([part_text(word, entries) for word, entries in zip(PART_WORDS, told)])


def numbered(entries):
    """Return the texts of cells or kinds."""
    return [name + " " + str(number) for name, number in entries]


def part_text(word, entries):
    """Return the text of a part of a ground whose entries have these texts."""
    return word + " " + ", ".join(entries) if entries else word
