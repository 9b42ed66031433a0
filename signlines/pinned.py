"""Lines through a told place: the slopes that cost least, and the signs that show it."""

from signlines.best import need_priced
from signlines.errors import NoPlace, NoSpread
from signlines.fillings import mixed_to
from signlines.fractions import are_fractions, is_row, need_fraction
from signlines.lines import cost_of
from signlines.orders import cheapest_of
from signlines.pairs import line_at, slope_to
from signlines.reckon import NOUGHT, ends, subtracted, weighed
from signlines.signs import free_ends, lie_between


def need_place(thing):
    if not is_row(thing, 2):
        raise NoPlace("a place is a tuple of two fractions, its x and its y")


def need_pinned(points, prices, place):
    """Refuses what is none, and points that are all at the place's x."""
    need_priced(points, prices)
    need_place(place)
    if not any(point[0] != place[0] for point in points):
        raise NoSpread("a point whose x is unlike the place's belongs here")


def least_slopes(points, prices, place):
    """The least and the greatest slope of the pinned lines that cost least."""
    # From slope to slope the cost bends only where a pinned line goes through a point.
    found = [slope_to(place, point) for point in points if point[0] != place[0]]
    rows = [(cost_of(points, prices, line_at(place, slope)), slope) for slope in found]
    return ends(cheapest_of(rows)[1])


def distances(points, place):
    """A list: each point's x less the place's x."""
    return [subtracted(point[0], place[0]) for point in points]


def pinned_slopes(points, prices, place):
    """The least and the greatest slope of the pinned lines that cost least."""
    need_pinned(points, prices, place)
    return least_slopes(points, prices, place)


def pinned_signs(points, prices, place):
    """Pinned signs that fit the pinned lines that cost least."""
    need_pinned(points, prices, place)
    line = line_at(place, least_slopes(points, prices, place)[0])
    far = distances(points, place)
    ones = []
    others = []
    for (low, high), distance in zip(free_ends(points, prices, line), far):
        # A greater sign left of the place makes the moment less.
        ones.append(high if distance[0] < 0 else low)
        others.append(low if distance[0] < 0 else high)
    return mixed_to(ones, others, far, NOUGHT)


def pinned_fit(points, prices, place, slope, thing):
    """Whether it is a list of pinned signs that fit the pinned line of that slope."""
    need_priced(points, prices)
    need_place(place)
    need_fraction(slope)
    if not are_fractions(thing, len(points)) or weighed(thing, distances(points, place)) != NOUGHT:
        return False
    return lie_between(thing, free_ends(points, prices, line_at(place, slope)))
