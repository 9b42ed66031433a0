"""Reckoning with fractions that are known to be such: nothing is checked here.

The modules check what is handed in once, at their doors, and reckon with these.
"""

from math import gcd

NOUGHT = (0, 1)
ONE = (1, 1)


def made(top, bottom):
    """The fraction of two whole numbers, the second not 0."""
    shared = gcd(top, bottom)
    if bottom < 0:
        shared = -shared
    return (top // shared, bottom // shared)


def added(one, other):
    return made(one[0] * other[1] + other[0] * one[1], one[1] * other[1])


def subtracted(one, other):
    return made(one[0] * other[1] - other[0] * one[1], one[1] * other[1])


def multiplied(one, other):
    return made(one[0] * other[0], one[1] * other[1])


def divided(one, other):
    """The quotient; the other one is not 0."""
    return made(one[0] * other[1], one[1] * other[0])


def negated(one):
    return (-one[0], one[1])


def size_of(one):
    """How far it is from 0."""
    return (abs(one[0]), one[1])


def is_less(one, other):
    """Whether the first is less."""
    return one[0] * other[1] < other[0] * one[1]


def total(numbers):
    """All of them together."""
    found = NOUGHT
    for number in numbers:
        found = added(found, number)
    return found


def weighed(numbers, others):
    """Each one times the other list's one at its place, all together."""
    return total([multiplied(one, other) for one, other in zip(numbers, others)])


def crossed(one, other):
    """Of two pairs: 0 where they lie on one straight line with (0, 0), else above 0 on one side, below on the other."""
    return subtracted(multiplied(one[0], other[1]), multiplied(one[1], other[0]))


def lesser(one, other):
    if is_less(other, one):
        return other
    return one


def greater(one, other):
    if is_less(one, other):
        return other
    return one


def ends(numbers):
    """The least and the greatest of one number or more."""
    least = greatest = numbers[0]
    for number in numbers:
        least = lesser(least, number)
        greatest = greater(greatest, number)
    return (least, greatest)
