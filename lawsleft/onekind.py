"""Books of one kind of deeds: their forms, and what holds in both of two of them."""

from math import gcd, lcm

from lawsleft.errors import NotOne
from lawsleft.facts import facts

PAIR = "pair"
ALL = "all"


def one_kind(book):
    """Return the form of a book of one kind of deeds, None if it has no facts."""
    given = facts(book)
    many = len(book[0][1])
    if many != 1:
        raise NotOne(many)
    if not given:
        return None
    least = min([count[0] for fact in given for count in fact[1:]])
    period = 0
    for fact in given:
        if fact[0] == "all":
            return (ALL, least)
        period = gcd(period, fact[2][0] - fact[1][0])
    return (PAIR, least, period)


def one_meet(one, two):
    """Return the form of what holds in both of two books of such forms."""
    if one is None or two is None:
        return None
    least = max(one[1], two[1])
    if one[0] == PAIR and two[0] == PAIR:
        return (PAIR, least, lcm(one[2], two[2]))
    if one[0] == PAIR:
        return (PAIR, least, one[2])
    if two[0] == PAIR:
        return (PAIR, least, two[2])
    return (ALL, least)
