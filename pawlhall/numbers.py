"""Exact fractions: tuples (top, bottom) in lowest terms, bottom at least 1."""

from math import gcd

from pawlhall.checks import is_fraction, is_int
from pawlhall.errors import NoFraction


def fraction(top, bottom=1):
    """Return the fraction top / bottom."""
    if not is_int(top):
        raise NoFraction(top)
    if not is_int(bottom) or bottom == 0:
        raise NoFraction(bottom)
    return _lowest(top, bottom)


def total(*fractions):
    """Return the sum of the fractions, (0, 1) for none."""
    _check_fractions(fractions)
    top, bottom = 0, 1
    for more, below in fractions:
        # Each step is reduced, so that long sums do not pile up digits.
        top, bottom = _lowest(top * below + more * bottom, bottom * below)
    return top, bottom


def product(*fractions):
    """Return the product of the fractions, (1, 1) for none."""
    _check_fractions(fractions)
    top, bottom = 1, 1
    for times, below in fractions:
        top, bottom = _lowest(top * times, bottom * below)
    return top, bottom


def _check_fractions(values):
    for value in values:
        if not is_fraction(value):
            raise NoFraction(value)


def _lowest(top, bottom):
    divisor = gcd(top, bottom)
    if bottom < 0:
        divisor = -divisor
    return top // divisor, bottom // divisor
