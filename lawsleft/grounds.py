"""Grounds: the cells, the kinds of deeds and the exits of programs, with their states and counts."""

from lawsleft.errors import BadCount, BadGround

LETTERS = "abcdefghijklmnopqrstuvwxyz"
LETTERS_AND_FIGURES = "abcdefghijklmnopqrstuvwxyz0123456789"
RESERVED = ("cells", "deeds", "exits", "if", "else", "while", "catch", "exit", "and", "or", "not", "law")
LONGEST_NAME = 12
CELLS = 0
EXITS = 2
MOST_ENTRIES = (4, 3, 4)
GREATEST_NUMBERS = (8, 99)
MOST_STATES = 64


def is_number(thing):
    """Whether thing is an int that is neither True nor False."""
    return isinstance(thing, int) and not isinstance(thing, bool)


def is_pair(thing):
    """Whether thing is a tuple of two."""
    return isinstance(thing, tuple) and len(thing) == 2


def is_place_in(many, thing):
    """Whether thing is the place of one of so many."""
    return is_number(thing) and 0 <= thing < many


def is_name(thing):
    """Whether thing can name something."""
    if not isinstance(thing, str) or not 1 <= len(thing) <= LONGEST_NAME or thing in RESERVED:
        return False
    return thing[0] in LETTERS and all(sign in LETTERS_AND_FIGURES for sign in thing)


def made_ground(thing):
    """Return thing if it is a ground, else raise BadGround for its first fault."""
    if not is_triple_of_tuples(thing):
        raise BadGround(-1)
    ahead = []
    for part, entries in enumerate(thing):
        if len(entries) > MOST_ENTRIES[part] or (part == EXITS and not entries):
            raise BadGround((part, -1))
        for index, entry in enumerate(entries):
            name = entry_name(part, entry)
            if name is None or name in ahead:
                raise BadGround((part, index))
            ahead.append(name)
        if part == CELLS and states_of_cells(entries) > MOST_STATES:
            raise BadGround((CELLS, -1))
    return thing


def is_triple_of_tuples(thing):
    """Whether thing has the outer form of a ground."""
    return isinstance(thing, tuple) and len(thing) == 3 and all(isinstance(part, tuple) for part in thing)


def entry_name(part, entry):
    """Return the name of an entry of this part of a ground, None if it is no entry."""
    if part == EXITS:
        return entry if is_name(entry) else None
    if not isinstance(entry, tuple) or len(entry) != 2:
        return None
    name, number = entry
    if not is_name(name) or not is_number(number) or not 1 <= number <= GREATEST_NUMBERS[part]:
        return None
    return name


def states_of_cells(cells):
    """Return how many states these cells have."""
    many = 1
    for _, size in cells:
        many = many * size
    return many


def is_ground(thing):
    """Whether thing is a ground."""
    try:
        made_ground(thing)
    except BadGround:
        return False
    return True


def states(ground):
    """Return all states of a ground, rising."""
    made_ground(ground)
    found = [()]
    for _, size in ground[0]:
        found = [state + (value,) for state in found for value in range(size)]
    return tuple(found)


def many_states(ground):
    """Return how many states a ground has."""
    made_ground(ground)
    return states_of_cells(ground[0])


def is_state(ground, thing):
    """Whether thing is a state of what surely is a ground."""
    if not isinstance(thing, tuple) or len(thing) != len(ground[0]):
        return False
    return all(is_number(value) and 0 <= value < size for value, (_, size) in zip(thing, ground[0]))


def nought(ground):
    """Return the count of no deeds."""
    made_ground(ground)
    return tuple(0 for _ in ground[1])


def plus(v, w):
    """Return the sum of two counts, part by part."""
    return tuple(m + n for m, n in zip(v, w))


def below(v, w):
    """Whether no part of the count v is greater than that of w."""
    for m, n in zip(v, w):
        if m > n:
            return False
    return True


def is_count_of(kinds, thing):
    """Whether thing is a count of deeds of these kinds, which are those of a ground."""
    if not isinstance(thing, tuple) or len(thing) != len(kinds):
        return False
    return all(is_number(part) and part >= 0 for part in thing)


def price(ground, v):
    """Return the price of a count."""
    made_ground(ground)
    if not is_count_of(ground[1], v):
        raise BadCount(v)
    return price_of(ground[1], v)


def key(ground, v):
    """Return the key of a count, by which counts are ordered."""
    return (price(ground, v), v)


def price_of(kinds, v):
    """Return the price of a count of deeds of these kinds, without a question."""
    return sum([part * cost for part, (_, cost) in zip(v, kinds)])


def key_of(kinds, v):
    """Return the key of a count of deeds of these kinds, without a question."""
    return (price_of(kinds, v), v)
