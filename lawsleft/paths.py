"""Steps, paths and lemmas: why counts are like, and where a row comes from."""

from lawsleft.errors import BadCount, BadStep
from lawsleft.facts import are_facts
from lawsleft.grounds import below, is_count_of, is_number, made_ground
from lawsleft.normals import is_row, led

MOST_TIMES = 10 ** 9


def walked(ground, facts, lemmas, start, path):
    """Return the worth to which a path by facts and lemmas leads a count."""
    made_ground(ground)
    if not is_count_of(ground[1], start):
        raise BadCount(start)
    return walked_by(sides_of_all(facts, lemmas), start, path)


def sides_of_all(facts, lemmas):
    """Return the two sides of each fact and each lemma, by the numbers that steps give them."""
    return [sides_of_fact(fact) for fact in facts] + [lemma[:2] for lemma in lemmas]


def sides_of_fact(fact):
    """Return the two sides of a fact."""
    if fact[0] == "all":
        return (fact[1], None)
    return fact[1:]


def walked_by(sides, start, path):
    """Return the worth to which a path leads a count, by steps that take one of these sides for the other."""
    if not isinstance(path, tuple):
        raise BadStep(-1)
    worth = start
    for index, step in enumerate(path):
        if not is_step(len(sides), step) or not can_be_done(sides, step, worth):
            raise BadStep(index)
        taken, put = turned_sides(sides, step)
        worth = led(taken, put, step[2], worth)
    return worth


def is_step(many, thing):
    """Whether thing is a step, where there are so many facts and lemmas."""
    if not isinstance(thing, tuple) or len(thing) != 3 or not all([is_number(part) for part in thing]):
        return False
    number, way, times = thing
    return 0 <= number < many and way in (1, -1) and 1 <= times <= MOST_TIMES


def turned_sides(sides, step):
    """Return the side that a step takes, and the one that it puts in its place."""
    first, second = sides[step[0]]
    if step[1] == 1:
        return first, second
    return second, first


def can_be_done(sides, step, worth):
    """Whether a step can be done at a worth."""
    taken, put = turned_sides(sides, step)
    times = step[2]
    if worth is None or taken is None or not below(taken, worth):
        return False
    if put is None:
        return times == 1
    # Each part goes one way all the time, so that the last turn tells of those between.
    return below(taken, led(taken, put, times - 1, worth))


def leads(sides, start, goal, path):
    """Whether a path leads from a count to a worth."""
    try:
        end = walked_by(sides, start, path)
    except BadStep:
        return False
    return end == goal


def entry_leads(sides, v, w, entry):
    """Whether an entry, a tuple, tells by its paths why two worths are like: v leads to w, or both to None."""
    if len(entry) == 2:
        return entry[0] == "like" and v is not None and w is not None and leads(sides, v, w, entry[1])
    if len(entry) != 3 or entry[0] != "all":
        return False
    return leads_to_none(sides, v, entry[1]) and leads_to_none(sides, w, entry[2])


def leads_to_none(sides, worth, path):
    """Whether a path leads a worth to None; for None itself there is but the path of no step."""
    if worth is None:
        return path == ()
    return leads(sides, worth, None, path)


def is_worth_of(kinds, thing):
    """Whether thing is None or a count of deeds of these kinds."""
    return thing is None or is_count_of(kinds, thing)


def have_lemma_form(kinds, thing):
    """Whether thing is a tuple of triples of a count, a worth and a tuple."""
    return isinstance(thing, tuple) and all([has_lemma_form(kinds, lemma) for lemma in thing])


def has_lemma_form(kinds, thing):
    """Whether thing is a triple of a count, a worth and a tuple."""
    if not isinstance(thing, tuple) or len(thing) != 3:
        return False
    return is_count_of(kinds, thing[0]) and is_worth_of(kinds, thing[1]) and isinstance(thing[2], tuple)


def path_right(ground, facts, lemmas, start, goal, path):
    """Whether path leads from a count to a worth, by facts and by what has the form of lemmas."""
    if not are_facts(ground, facts) or not have_lemma_form(ground[1], lemmas):
        return False
    if not is_count_of(ground[1], start) or not is_worth_of(ground[1], goal):
        return False
    return leads(sides_of_all(facts, lemmas), start, goal, path)


def lemmas_right(ground, facts, lemmas):
    """Whether the path of each lemma leads from its start to its goal, by what stands ahead of it."""
    if not are_facts(ground, facts) or not have_lemma_form(ground[1], lemmas):
        return False
    sides = sides_of_all(facts, ())
    for start, goal, path in lemmas:
        if not leads(sides, start, goal, path):
            return False
        sides.append((start, goal))
    return True


def derivation_right(ground, facts, row, derivation):
    """Whether derivation tells where each rule of a row comes from."""
    if not is_row(ground, row) or not isinstance(derivation, tuple) or len(derivation) != 2:
        return False
    lemmas, numbers = derivation
    if not lemmas_right(ground, facts, lemmas) or not isinstance(numbers, tuple) or len(numbers) != len(row):
        return False
    sides = sides_of_all(facts, lemmas)
    return all([names_sides(sides, number, rule) for number, rule in zip(numbers, row)])


def names_sides(sides, number, rule):
    """Whether number is that of two sides that are left and right of a rule, in this order."""
    return is_number(number) and 0 <= number < len(sides) and sides[number] == rule
