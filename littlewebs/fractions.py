"""Fractions: pairs of a top and a bottom, in lowest terms."""

from math import gcd

from littlewebs.checks import are_numbers, is_integer
from littlewebs.errors import BadNumber


def is_fraction(value):
    """Whether any value is a fraction."""
    return are_numbers(value) and len(value) == 2 and value[1] >= 1 and gcd(value[0], value[1]) == 1


def lowest(top, bottom):
    """The top divided by the bottom."""
    if not is_integer(top):
        raise BadNumber("top")
    if not is_integer(bottom) or bottom == 0:
        raise BadNumber("bottom")
    divisor = gcd(top, bottom) if bottom > 0 else -gcd(top, bottom)
    return top // divisor, bottom // divisor


def plus(one, other):
    """The sum of two fractions."""
    _need_fractions(one, other)
    return lowest(one[0] * other[1] + other[0] * one[1], one[1] * other[1])


def less(one, other):
    """The one fraction less the other one."""
    _need_fractions(one, other)
    return lowest(one[0] * other[1] - other[0] * one[1], one[1] * other[1])


def times(one, other):
    """The product of two fractions."""
    _need_fractions(one, other)
    return lowest(one[0] * other[0], one[1] * other[1])


def over(one, other):
    """The one fraction divided by the other one."""
    _need_fractions(one, other)
    if other[0] == 0:
        raise BadNumber("other")
    return lowest(one[0] * other[1], one[1] * other[0])


def _need_fractions(one, other):
    """Raise if one of both is no fraction."""
    if not is_fraction(one):
        raise BadNumber("one")
    if not is_fraction(other):
        raise BadNumber("other")
