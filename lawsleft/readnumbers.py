"""Numbers and tests of programs, read from texts. What is read is a pair of the thing and how deep it is."""

from lawsleft.errors import BadNumber, NoName, TooDeep
from lawsleft.expressions import DEEPEST, GREATEST_NUM
from lawsleft.words import NUMBER

WORDS = {"+": "add", "-": "sub", "*": "mul", "=": "eq", "<": "less"}


def read_number(reading, cells):
    """Return the number E of the sum that comes, over cells of these names."""
    number, _ = read_sum(reading, cells)
    return number


def read_test(reading, cells):
    """Return the test T that comes, over cells of these names."""
    test, _ = read_either(reading, cells)
    return test


def read_sum(reading, cells):
    """Read products with "+" or "-" between them."""
    told = read_product(reading, cells)
    while reading.comes(("+", "-")):
        sign, place = reading.take()
        told = put_together(WORDS[sign], told, read_product(reading, cells), place)
    return told


def read_product(reading, cells):
    """Read atoms with "*" between them."""
    told = read_atom(reading, cells)
    while reading.comes(("*",)):
        sign, place = reading.take()
        told = put_together(WORDS[sign], told, read_atom(reading, cells), place)
    return told


def read_atom(reading, cells):
    """Read a figure word, the name of a cell, or a sum in brackets."""
    if reading.comes(("(",)):
        reading.take_bracket()
        told = read_sum(reading, cells)
        reading.close_bracket(")")
        return told
    if reading.comes_one_of(NUMBER):
        number, place = reading.take_number()
        if number > GREATEST_NUM:
            raise BadNumber(place)
        return ("num", number), 1
    name, place = reading.take_name()
    if name not in cells:
        raise NoName(place)
    return ("cell", name), 1


def read_either(reading, cells):
    """Read both-parts with "or" between them."""
    told = read_both(reading, cells)
    while reading.comes(("or",)):
        word, place = reading.take()
        told = put_together(word, told, read_both(reading, cells), place)
    return told


def read_both(reading, cells):
    """Read not-parts with "and" between them."""
    told = read_not_part(reading, cells)
    while reading.comes(("and",)):
        word, place = reading.take()
        told = put_together(word, told, read_not_part(reading, cells), place)
    return told


def read_not_part(reading, cells):
    """Read a comparison or a test in brackets, perhaps with "not" ahead of it."""
    places = []
    # A text may have thousands of "not" side by side: too many for calls within calls.
    while reading.comes(("not",)):
        _, place = reading.take()
        places.append(place)
    test, deep = read_bare_test(reading, cells)
    for place in places[::-1]:
        deep += 1
        ask_depth(deep, place)
        test = ("not", test)
    return test, deep


def read_bare_test(reading, cells):
    """Read a comparison of two sums, or a test in brackets."""
    if reading.comes(("[",)):
        reading.take_bracket()
        told = read_either(reading, cells)
        reading.close_bracket("]")
        return told
    left = read_number(reading, cells)
    sign, _ = reading.take_mark(("=", "<"))
    return (WORDS[sign], left, read_number(reading, cells)), 1


def put_together(word, one, two, place):
    """Return what a word makes of the two parts that stand on either side of it; the place is the word's."""
    deep = 1 + max(one[1], two[1])
    ask_depth(deep, place)
    return (word, one[0], two[0]), deep


def ask_depth(deep, place):
    """Raise TooDeep with the place of the word by which something would be too deep."""
    if deep > DEEPEST:
        raise TooDeep(place)
