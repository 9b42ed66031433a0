"""Rows of values: the numbers that cost least, and the one of least distance."""

from itertools import combinations

from signlines.errors import NoValues
from signlines.fractions import are_weighed
from signlines.lines import cost_of
from signlines.orders import cheapest_of
from signlines.points import need_prices
from signlines.reckon import NOUGHT, added, divided, ends, is_less, multiplied, size_of, subtracted

MOST_VALUES = 24


def is_values(thing):
    """Whether it is a list of one to twenty-four tuples (value, weight), the weight above 0."""
    return are_weighed(thing, MOST_VALUES, 2)


def need_values(thing):
    if not is_values(thing):
        raise NoValues("values are a list of one to twenty-four tuples of a value and a weight above 0")


def cheapest_numbers(values, prices):
    """The least cost of any number, and the values that come to it."""
    # As lines of slope 0 do, of points above one another: the cost bends only at the values.
    points = [(NOUGHT, value, weight) for value, weight in values]
    return cheapest_of([(cost_of(points, prices, (value, NOUGHT)), value) for value, _ in values])


def between_two(one, other):
    """(number, distance): the number from which both values' weights times distances are alike."""
    weight = added(one[1], other[1])
    number = divided(added(multiplied(one[0], one[1]), multiplied(other[0], other[1])), weight)
    return (number, multiplied(one[1], size_of(subtracted(one[0], number))))


def middles(values, prices):
    """The least and the greatest number that cost least."""
    need_values(values)
    need_prices(prices)
    return ends(cheapest_numbers(values, prices)[1])


def midway(values):
    """(number, distance): the number of which the greatest of weights times distances is least, and that."""
    need_values(values)
    found = (values[0][0], NOUGHT)
    # No number is nearer to all than the one between the two that are the farthest apart so.
    for one, other in combinations(values, 2):
        here = between_two(one, other)
        if is_less(found[1], here[1]):
            found = here
    return found
