"""Fractions: tuples (top, bottom) in lowest terms, the bottom from 1 on."""

from math import gcd

from signlines.errors import NoFraction
from signlines.reckon import NOUGHT, added, divided, is_less, made, multiplied, negated, subtracted


def is_whole(thing):
    # True and False are ints to Python, but no whole numbers here.
    return isinstance(thing, int) and not isinstance(thing, bool)


def is_fraction(thing):
    """Whether it is a fraction in lowest terms."""
    if not isinstance(thing, tuple) or len(thing) != 2:
        return False
    top, bottom = thing
    return is_whole(top) and is_whole(bottom) and bottom >= 1 and gcd(top, bottom) == 1


def are_fractions(thing, many):
    """Whether it is a list of so many fractions."""
    return isinstance(thing, list) and len(thing) == many and all(is_fraction(part) for part in thing)


def is_row(thing, many):
    """Whether it is a tuple of so many fractions."""
    return isinstance(thing, tuple) and len(thing) == many and all(is_fraction(part) for part in thing)


def are_rows(thing, most, many):
    """Whether it is a list, of one to so many, of tuples of so many fractions."""
    if not isinstance(thing, list) or not 1 <= len(thing) <= most:
        return False
    return all(is_row(part, many) for part in thing)


def are_weighed(thing, most, many):
    """Whether it is a list, of one to so many, of tuples of so many fractions, the last one, a weight, above 0."""
    return are_rows(thing, most, many) and all(row[-1][0] > 0 for row in thing)


def need_fraction(thing):
    if not is_fraction(thing):
        raise NoFraction("a fraction is a tuple of a top and a bottom in lowest terms, the bottom from 1 on")


def need_factor(thing):
    """Refuses what is no fraction other than 0."""
    need_fraction(thing)
    if thing == NOUGHT:
        raise NoFraction("a fraction other than 0 belongs here")


def fraction(top, bottom):
    """The fraction of two whole numbers, the second not 0."""
    if not is_whole(top) or not is_whole(bottom) or bottom == 0:
        raise NoFraction("a fraction is made of two whole numbers, the second not 0")
    return made(top, bottom)


def plus(one, other):
    """The sum."""
    need_fraction(one)
    need_fraction(other)
    return added(one, other)


def less(one, other):
    """The difference."""
    need_fraction(one)
    need_fraction(other)
    return subtracted(one, other)


def times(one, other):
    """The product."""
    need_fraction(one)
    need_fraction(other)
    return multiplied(one, other)


def over(one, other):
    """The quotient; refused where the other one is 0."""
    need_fraction(one)
    need_factor(other)
    return divided(one, other)


def opposite(one):
    """0 less it."""
    need_fraction(one)
    return negated(one)


def is_below(one, other):
    """Whether the first is less."""
    need_fraction(one)
    need_fraction(other)
    return is_less(one, other)
