"""Rows of rules, and the normals to which they lead counts."""

from lawsleft.errors import BadCount, BadRow, Refused
from lawsleft.facts import are_facts
from lawsleft.grounds import below, is_count_of, key_of, made_ground


def normal(ground, row, v):
    """Return the worth to which the rules of a row lead a count at last."""
    ask_row(ground, row)
    if not is_count_of(ground[1], v):
        raise BadCount(v)
    return normal_by(row, v)


def everything(ground, row):
    """Return the left of the first rule whose right is None, None if there is none."""
    ask_row(ground, row)
    return everything_by(row)


def everything_by(row):
    """Return the left of the first rule whose right is None, None if there is none, without a question."""
    for left, right in row:
        if right is None:
            return left
    return None


def ask_row(ground, thing):
    """Raise the first error met if ground is no ground, or thing no row of it."""
    made_ground(ground)
    if not isinstance(thing, tuple):
        raise BadRow(-1)
    kinds = ground[1]
    for index, rule in enumerate(thing):
        if not is_rule_of(kinds, rule):
            raise BadRow(index)
        if index > 0 and key_of(kinds, thing[index - 1][0]) >= key_of(kinds, rule[0]):
            raise BadRow(index)


def is_rule_of(kinds, thing):
    """Whether thing is a rule about counts of deeds of these kinds."""
    if not isinstance(thing, tuple) or len(thing) != 2 or not is_count_of(kinds, thing[0]):
        return False
    left, right = thing
    if right is None:
        return True
    return is_count_of(kinds, right) and key_of(kinds, right) < key_of(kinds, left)


def is_row(ground, thing):
    """Whether ground is a ground and thing a row of it."""
    try:
        ask_row(ground, thing)
    except Refused:
        return False
    return True


def normal_by(rules, v):
    """Return the normal of a worth by such rules."""
    end, _ = normal_and_turns(rules, v)
    return end


def normal_and_turns(rules, v):
    """Return the normal of a worth, and the turns that lead it there.

    A turn is a pair (steps, times) of pairs (index of a rule, times), and how often they are done on end.
    Great counts may go to and fro by some rules very often. What the steps since a mark did together
    is a rule, too: where it fits once more, it is taken as often as it can be. The mark is moved on
    after ever more steps, so that at last it lies ahead of all that comes round.
    """
    turns, since, together, most_steps = [], [], None, 1
    index = fitting(rules, v)
    while index is not None:
        left, right = rules[index]
        times = times_at_one_go(left, right, v)
        v = led(left, right, times, v)
        since.append((index, times))
        if v is None:
            break
        together = one_behind_another(together, taken_often(left, right, times))
        if below(together[0], v):
            more = times_at_one_go(together[0], together[1], v)
            v = led(together[0], together[1], more, v)
            turns.append((tuple(since), 1 + more))
            since, together, most_steps = [], None, 1
        elif len(since) == most_steps:
            turns.append((tuple(since), 1))
            since, together, most_steps = [], None, 2 * most_steps
        index = fitting(rules, v)
    return v, turns + [(tuple(since), 1)]


def done_together(rules, steps):
    """Return the rule that does what steps by such rules do, none of which leads to None."""
    together = None
    for index, times in steps:
        left, right = rules[index]
        together = one_behind_another(together, taken_often(left, right, times))
    return together


def taken_often(left, right, times):
    """Return the rule that leads a count to where this one leads it in so many times."""
    needed = tuple(taken + max(0, (times - 1) * (taken - put)) for taken, put in zip(left, right))
    return (needed, led(left, right, times, needed))


def one_behind_another(one, two):
    """Return the rule that does what rule one and then rule two does; one may be None."""
    if one is None:
        return two
    between = join_of(one[1], two[0])
    return (led(one[1], one[0], 1, between), led(two[0], two[1], 1, between))


def normal_and_steps(rules, v):
    """Return the normal of a worth, and the pairs (index of a rule, times) that lead it there."""
    steps = []
    index = fitting(rules, v)
    while index is not None:
        left, right = rules[index]
        times = times_at_one_go(left, right, v)
        steps.append((index, times))
        v = led(left, right, times, v)
        index = fitting(rules, v)
    return v, steps


def fitting(rules, v):
    """Return the index of the first rule that fits a worth, None if none does."""
    if v is None:
        return None
    for index, (left, _) in enumerate(rules):
        if below(left, v):
            return index
    return None


def times_at_one_go(left, right, v):
    """Return how many times on end a rule that fits a count can lead it on."""
    if right is None:
        return 1
    # The right has a lesser key than the left, so that at least one of its parts is less.
    return min([(n - taken) // (taken - put) + 1 for taken, put, n in zip(left, right, v) if put < taken])


def led(left, right, times, v):
    """Return the worth to which a rule leads a count that many times."""
    if right is None:
        return None
    return tuple(n + times * (put - taken) for taken, put, n in zip(left, right, v))


def join_of(v, w):
    """Return the count that has the greater of each two parts."""
    return tuple(max(m, n) for m, n in zip(v, w))


def row_right(ground, facts, row):
    """Whether row is reduced, its rules meet, and the two sides of each fact have one normal by it."""
    if not are_facts(ground, facts) or not is_row(ground, row):
        return False
    if not is_reduced(row) or not rules_meet(row):
        return False
    return all([sides_meet(row, fact) for fact in facts])


def is_reduced(row):
    """Whether no left of a row is below another one, and each right is a normal."""
    for index, (left, right) in enumerate(row):
        # A left that is below another one has no greater key, and so stands ahead of it.
        if any([below(ahead, left) for ahead, _ in row[:index]]):
            return False
        if fitting(row, right) is not None:
            return False
    return True


def rules_meet(row):
    """Whether each two rules of a row lead the join of their lefts to one normal."""
    for later, rule in enumerate(row):
        for ahead in range(later):
            if not meet_by_others(row, ahead, later) and not two_meet(row, row[ahead], rule):
                return False
    return True


def meet_by_others(row, ahead, later):
    """Whether two rules surely meet if all do of which this is not told.

    So do rules that share no kind: one can be taken behind the other. And so do those between which a rule
    stands that fits their join too: it comes to one normal there with each of the two, which stand closer to it.
    """
    v, w = row[ahead][0], row[later][0]
    if not overlapping(v, w):
        return True
    join = join_of(v, w)
    for between in range(ahead + 1, later):
        if below(row[between][0], join):
            return True
    return False


def overlapping(v, w):
    """Whether two counts share a kind."""
    for m, n in zip(v, w):
        if m > 0 and n > 0:
            return True
    return False


def two_meet(row, one, two):
    """Whether two rules lead the join of their lefts to one normal by the row."""
    if one[1] is None and two[1] is None:
        return True
    start = join_of(one[0], two[0])
    return normal_by(row, led(one[0], one[1], 1, start)) == normal_by(row, led(two[0], two[1], 1, start))


def sides_meet(row, fact):
    """Whether the two sides of a fact have one normal by the row."""
    if fact[0] == "all":
        return normal_by(row, fact[1]) is None
    return normal_by(row, fact[1]) == normal_by(row, fact[2])
