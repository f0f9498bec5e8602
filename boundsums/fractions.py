"""Fractions: tuples (top, bottom) in lowest terms, the bottom 1 or more."""

from math import gcd

from boundsums.errors import BadFraction, ByNought
from boundsums.kinds import is_pair_of_wholes, is_whole


def fraction(top, bottom):
    """The fraction of a top and a bottom, in lowest terms."""
    if not is_whole(top) or not is_whole(bottom):
        raise BadFraction("the top and the bottom of a fraction are whole numbers")
    if bottom == 0:
        raise BadFraction("the bottom of a fraction is not 0")
    common = gcd(top, bottom)
    if bottom < 0:
        common = -common
    return (top // common, bottom // common)


def is_fraction(thing):
    """Whether a thing of any kind is a fraction in lowest terms."""
    if not is_pair_of_wholes(thing):
        return False
    return thing[1] >= 1 and gcd(thing[0], thing[1]) == 1


def need_fraction(thing):
    """The fraction that a pair of a top and a bottom stands for."""
    if not is_pair_of_wholes(thing):
        raise BadFraction("a fraction is a tuple of two whole numbers")
    return fraction(thing[0], thing[1])


def added(p, q):
    """The sum of two fractions."""
    top, bottom = need_fraction(p)
    other_top, other_bottom = need_fraction(q)
    return fraction(top * other_bottom + other_top * bottom, bottom * other_bottom)


def taken(p, q):
    """The first fraction less the second."""
    top, bottom = need_fraction(p)
    other_top, other_bottom = need_fraction(q)
    return fraction(top * other_bottom - other_top * bottom, bottom * other_bottom)


def multiplied(p, q):
    """The product of two fractions."""
    top, bottom = need_fraction(p)
    other_top, other_bottom = need_fraction(q)
    return fraction(top * other_top, bottom * other_bottom)


def divided(p, q):
    """The first fraction by the second, which may not be nought."""
    top, bottom = need_fraction(p)
    other_top, other_bottom = need_fraction(q)
    if other_top == 0:
        raise ByNought("a fraction is not divided by nought")
    return fraction(top * other_bottom, bottom * other_top)


def compared(p, q):
    """-1 where the first is the lesser, 1 where it is the greater, else 0."""
    top, bottom = need_fraction(p)
    other_top, other_bottom = need_fraction(q)
    here = top * other_bottom
    there = other_top * bottom
    if here == there:
        return 0
    return -1 if here < there else 1


def floor_of(p):
    """The greatest whole number that is not above a fraction."""
    top, bottom = need_fraction(p)
    return top // bottom


def ceiling_of(p):
    """The least whole number that is not below a fraction."""
    top, bottom = need_fraction(p)
    return -(-top // bottom)
