"""Fractions: tuples (top, bottom) in lowest terms, bottom from 1 on."""

from wholepoll.errors import NoNumber
from wholepoll.wholes import divisor, down, is_whole, up


def fraction(top, bottom):
    """The fraction that is worth top / bottom."""
    if not is_whole(top) or not is_whole(bottom):
        raise NoNumber("a fraction is made of two whole numbers")
    if bottom == 0:
        raise NoNumber("nothing is parted by 0")
    shared = divisor(top, bottom)
    if bottom < 0:
        shared = -shared
    return (top // shared, bottom // shared)


def plus(one, other):
    """The sum of two fractions."""
    return fraction(one[0] * other[1] + other[0] * one[1], one[1] * other[1])


def minus(one, other):
    """The one fraction less the other."""
    return fraction(one[0] * other[1] - other[0] * one[1], one[1] * other[1])


def times(one, other):
    """The product of two fractions."""
    return fraction(one[0] * other[0], one[1] * other[1])


def parted(one, other):
    """The one fraction by the other; by nought it is refused."""
    return fraction(one[0] * other[1], one[1] * other[0])


def under(one, other):
    """Whether the one fraction is worth less than the other."""
    return one[0] * other[1] < other[0] * one[1]


def least_from(one):
    """The least whole number that is not below a fraction."""
    return up(one[0], one[1])


def least_above(one):
    """The least whole number that is above a fraction."""
    return down(one[0], one[1]) + 1


def total(some):
    """The sum of a list of fractions."""
    so_far = (0, 1)
    for one in some:
        so_far = plus(so_far, one)
    return so_far
