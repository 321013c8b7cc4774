"""Laws and books, and the facts that they tell of counts."""

from lawsleft.errors import BadBook, BadLaw, Refused, TooGreat
from lawsleft.grounds import is_count_of, is_ground, key_of, made_ground
from lawsleft.programs import is_program
from lawsleft.tables import all_outcomes

MOST_LAWS = 30
GREATEST_PART = 40


def made_book(thing):
    """Return thing if it is a book, else raise the first error met in it."""
    facts_of_each(thing)
    return thing


def is_book(thing):
    """Whether thing is a book."""
    return facts_if_book(thing) is not None


def facts_of_each(thing):
    """Return the facts of each law of a book, or raise what made_book raises."""
    if not isinstance(thing, tuple) or len(thing) != 2:
        raise BadBook(-1)
    ground, laws = thing
    made_ground(ground)
    if not isinstance(laws, tuple) or len(laws) > MOST_LAWS:
        raise BadBook(-1)
    for index, sides in enumerate(laws):
        if not are_sides(ground, sides):
            raise BadLaw(index)
    found = [facts_of_sides(ground, sides) for sides in laws]
    for index, told in enumerate(found):
        ask_greatness(told, index)
    return found


def ask_greatness(told, index):
    """Raise TooGreat if one of the facts of the law of this index is too great for a book."""
    if any([too_great(fact) for fact in told]):
        raise TooGreat(index)


def are_sides(ground, thing):
    """Whether thing is a law of the ground."""
    if not isinstance(thing, tuple) or len(thing) != 2:
        return False
    return is_program(ground, thing[0]) and is_program(ground, thing[1])


def too_great(fact):
    """Whether a count of the fact has a part that is too great for a book."""
    return any([part > GREATEST_PART for count in fact[1:] for part in count])


def facts_of(ground, sides):
    """Return the facts of a law, state by state, each once."""
    made_ground(ground)
    if not are_sides(ground, sides):
        raise BadLaw(0)
    return facts_of_sides(ground, sides)


def facts_of_sides(ground, sides):
    """Return the facts of what surely is a law of the ground."""
    found = []
    for one, two in zip(all_outcomes(ground, sides[0]), all_outcomes(ground, sides[1])):
        found.extend(facts_from(ground[1], one, two))
    return each_once(found)


def facts_from(kinds, one, two):
    """Return the facts that two outcomes from one state tell."""
    if one is None or two is None:
        return [("all", end[0]) for end in (one, two) if end is not None]
    v, w = one[0], two[0]
    if one[1:] != two[1:]:
        return [("all", v), ("all", w)]
    if v == w:
        return []
    if key_of(kinds, w) < key_of(kinds, v):
        return [("like", w, v)]
    return [("like", v, w)]


def each_once(told):
    """Return the facts without those that stand further ahead already."""
    return tuple({fact: True for fact in told})


def facts(book):
    """Return the facts of all laws of a book, each once."""
    return facts_of_all(facts_of_each(book))


def facts_of_all(found):
    """Return the facts of all laws, which are told law by law, each once."""
    return each_once([fact for told in found for fact in told])


def facts_if_book(thing):
    """Return the facts of a book, None for what is no book."""
    try:
        return facts(thing)
    except Refused:
        return None


def are_facts(ground, thing):
    """Whether ground is a ground and thing a tuple of facts of it."""
    if not isinstance(thing, tuple) or not is_ground(ground):
        return False
    return all([is_fact_of(ground[1], fact) for fact in thing])


def is_fact_of(kinds, thing):
    """Whether thing is a fact about counts of deeds of these kinds."""
    if not isinstance(thing, tuple) or not all([is_count_of(kinds, count) for count in thing[1:]]):
        return False
    if len(thing) == 2:
        return thing[0] == "all"
    return len(thing) == 3 and thing[0] == "like" and key_of(kinds, thing[1]) < key_of(kinds, thing[2])
