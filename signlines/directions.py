"""Directions: along which of them some stripe is nearest to the points."""

from signlines.errors import NoDirections
from signlines.fractions import are_rows
from signlines.points import need_points
from signlines.reckon import NOUGHT, ONE, added, divided, ends, is_less, multiplied
from signlines.rows import cheapest_numbers

MOST_DIRECTIONS = 8


def need_directions(thing):
    if not are_rows(thing, MOST_DIRECTIONS, 2) or (NOUGHT, NOUGHT) in thing:
        raise NoDirections("directions are a list of one to eight tuples of two fractions, not both 0")


def best_stripes(points, direction):
    """(least, greatest, square): of the stripes along the direction that are nearest to the points."""
    a, b = direction
    values = [(added(multiplied(a, x), multiplied(b, y)), weight) for x, y, weight in points]
    cost, numbers = cheapest_numbers(values, (ONE, ONE))
    least, greatest = ends(numbers)
    # A true distance is the value's from c, divided by the root of this sum: only its square is a fraction.
    unit = added(multiplied(a, a), multiplied(b, b))
    return (least, greatest, divided(multiplied(cost, cost), unit))


def nearest_stripe(points, directions):
    """(k, least, greatest, square): the first direction with the least sum of true distances, and its stripes."""
    need_points(points)
    need_directions(directions)
    found = None
    for k, direction in enumerate(directions):
        least, greatest, square = best_stripes(points, direction)
        if found is None or is_less(square, found[3]):
            found = (k, least, greatest, square)
    return found
