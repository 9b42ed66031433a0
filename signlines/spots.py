"""Spots in space, and planes: what they are, rises, costs, points laid twice."""

from itertools import combinations

from signlines.errors import NoFraction, NoPlane, NoPoints, NoSpots, NoSpread
from signlines.fractions import are_weighed, is_row, need_fraction
from signlines.points import need_points, need_prices
from signlines.reckon import NOUGHT, added, crossed, multiplied, negated, subtracted, total

MOST_SPOTS = 8
MOST_LAID = 4


def is_spots(thing):
    """Whether it is a list of one to eight tuples (x, y, z, weight), the weight above 0."""
    return are_weighed(thing, MOST_SPOTS, 4)


def is_plane(thing):
    """Whether it is a tuple (height, along, across)."""
    return is_row(thing, 3)


def need_spots(thing):
    if not is_spots(thing):
        raise NoSpots("spots are a list of one to eight tuples of x, y, z and a weight above 0")


def need_plane(thing):
    if not is_plane(thing):
        raise NoPlane("a plane is a tuple of three fractions, its height, along and across")


def turned(one, other, third):
    """Twice the area between three places, below 0 where they go round the other way; 0 on one straight line."""
    here = (subtracted(other[0], one[0]), subtracted(other[1], one[1]))
    there = (subtracted(third[0], one[0]), subtracted(third[1], one[1]))
    return crossed(here, there)


def are_wide(spots):
    """Whether the places of three spots, known to be such, are not on one straight line."""
    for one, other, third in combinations(spots, 3):
        if turned(one, other, third) != NOUGHT:
            return True
    return False


def need_wide(spots):
    """Refuses spots, known to be such, whose places are on one straight line."""
    if not are_wide(spots):
        raise NoSpread("three spots whose places are not on one straight line belong here")


def is_wide(spots):
    """Whether the places of three are not on one straight line."""
    need_spots(spots)
    return are_wide(spots)


def laid_twice(points, one, other):
    """For each of one to four points a spot at each of two unlike fractions, its y as z."""
    need_points(points)
    if len(points) > MOST_LAID:
        raise NoPoints("one to four points are laid twice")
    need_fraction(one)
    need_fraction(other)
    if one == other:
        raise NoFraction("points are laid at two unlike fractions")
    found = []
    for x, y, weight in points:
        found.append((x, one, y, weight))
        found.append((x, other, y, weight))
    return found


def spot_rise(spot, plane):
    """The z of a spot less where the plane stands there, both known to be such."""
    x, y, z, _ = spot
    height, along, across = plane
    return subtracted(z, added(height, added(multiplied(along, x), multiplied(across, y))))


def cost_of_plane(spots, prices, plane):
    """What a plane costs, all three known to be such."""
    up, down = prices
    parts = []
    for spot in spots:
        rise = spot_rise(spot, plane)
        if rise[0] > 0:
            parts.append(multiplied(up, multiplied(spot[3], rise)))
        else:
            parts.append(multiplied(down, multiplied(spot[3], negated(rise))))
    return total(parts)


def spot_rises(spots, plane):
    """A list: each spot's rise over the plane."""
    need_spots(spots)
    need_plane(plane)
    return [spot_rise(spot, plane) for spot in spots]


def plane_cost(spots, prices, plane):
    """What the plane costs at the prices."""
    need_spots(spots)
    need_prices(prices)
    need_plane(plane)
    return cost_of_plane(spots, prices, plane)
