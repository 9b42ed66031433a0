"""Best planes: those that cost least."""

from itertools import combinations

from signlines.orders import cheapest_of, sorted_once
from signlines.points import need_prices
from signlines.reckon import NOUGHT, added, divided, multiplied, subtracted
from signlines.spots import cost_of_plane, need_spots, need_wide, turned


def plane_through(one, other, third):
    """The plane through three spots, or None where their places are on one straight line."""
    whole = turned(one, other, third)
    if whole == NOUGHT:
        return None
    along = divided(turned((one[2], one[1]), (other[2], other[1]), (third[2], third[1])), whole)
    across = divided(turned((one[0], one[2]), (other[0], other[2]), (third[0], third[2])), whole)
    height = subtracted(one[2], added(multiplied(along, one[0]), multiplied(across, one[1])))
    return (height, along, across)


def planes_of(spots):
    """All planes through three of the spots whose places are not on one straight line, sorted."""
    found = []
    for one, other, third in combinations(spots, 3):
        plane = plane_through(one, other, third)
        if plane is not None:
            found.append(plane)
    return sorted_once(found)


def cheapest_planes(spots, prices):
    """The least cost, and those of these planes that come to it, sorted; of wide spots."""
    return cheapest_of([(cost_of_plane(spots, prices, plane), plane) for plane in planes_of(spots)])


def need_wide_priced(spots, prices):
    """Refuses spots and prices that are none, and spots that are not wide."""
    need_spots(spots)
    need_prices(prices)
    need_wide(spots)


def plane_corners(spots, prices):
    """The best planes of those through three spots, sorted."""
    need_wide_priced(spots, prices)
    return cheapest_planes(spots, prices)[1]


def least_plane_cost(spots, prices):
    """What the best planes cost."""
    need_wide_priced(spots, prices)
    return cheapest_planes(spots, prices)[0]
