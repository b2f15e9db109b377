"""Fractions: tuples (top, bottom) in lowest terms, with a bottom from 1 on."""

from math import gcd

from whatran.errors import NoFraction
from whatran.wholes import is_whole


def fraction(top, bottom=1):
    """The fraction of two whole numbers, the bottom one not 0."""
    if not is_whole(top, None, None) or not is_whole(bottom, None, None):
        raise NoFraction("a fraction is made of two whole numbers")
    if bottom == 0:
        raise NoFraction("no fraction has 0 as its bottom")
    common = gcd(top, bottom)
    if bottom < 0:
        common = -common
    return (top // common, bottom // common)


def is_fraction(thing):
    """Whether the thing is a fraction, thus in lowest terms."""
    if not isinstance(thing, tuple) or len(thing) != 2:
        return False
    top, bottom = thing
    if not is_whole(top, None, None) or not is_whole(bottom, 1, None):
        return False
    return gcd(top, bottom) == 1


def plus(one, other):
    """The sum of two fractions."""
    _need_fractions(one, other)
    return fraction(one[0] * other[1] + other[0] * one[1], one[1] * other[1])


def minus(one, other):
    """The first fraction less the other one."""
    _need_fractions(one, other)
    return fraction(one[0] * other[1] - other[0] * one[1], one[1] * other[1])


def times(one, other):
    """The product of two fractions."""
    _need_fractions(one, other)
    return fraction(one[0] * other[0], one[1] * other[1])


def shared(one, other):
    """The first fraction shared by the other one, which is not (0, 1)."""
    _need_fractions(one, other)
    return fraction(one[0] * other[1], one[1] * other[0])


def _need_fractions(one, other):
    if not is_fraction(one) or not is_fraction(other):
        raise NoFraction("no fraction")
