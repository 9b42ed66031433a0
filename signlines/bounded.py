"""Lines with slopes between bounds: those that cost least, and the signs and the price that show it."""

from signlines.best import need_priced
from signlines.errors import NoBounds
from signlines.fillings import both_filled, mixed_to
from signlines.fractions import are_fractions, is_fraction
from signlines.lines import priced
from signlines.orders import cheapest_of, sorted_once
from signlines.pairs import line_at, pair_lines_of
from signlines.points import need_line, need_spread
from signlines.reckon import NOUGHT, greater, is_less, lesser, weighed
from signlines.signs import free_ends, have_moment, lie_between


def is_bound(thing):
    """Whether it is an end of bounds, or None, where there is no end."""
    return thing is None or is_fraction(thing)


def is_bounds(thing):
    """Whether it is a tuple (low, high), each a fraction or None, low no more than high."""
    if not isinstance(thing, tuple) or len(thing) != 2:
        return False
    low, high = thing
    if not is_bound(low) or not is_bound(high):
        return False
    return low is None or high is None or not is_less(high, low)


def need_bounds(thing):
    if not is_bounds(thing):
        raise NoBounds("bounds are a tuple of two slopes, each a fraction or None, the first no more than the second")


def need_bounded(points, prices, bounds):
    """Refuses what is none, and points of one x where a bound is missing."""
    need_priced(points, prices)
    need_bounds(bounds)
    if bounds[0] is None or bounds[1] is None:
        need_spread(points)


def is_within(slope, bounds):
    """Whether a slope goes beyond neither of the bounds."""
    low, high = bounds
    if low is not None and is_less(slope, low):
        return False
    return high is None or not is_less(high, slope)


def bound_lines(points, bounds):
    """The pair lines within the bounds, and the lines of either bound's slope through a point, sorted."""
    found = [line for line in pair_lines_of(points) if is_within(line[1], bounds)]
    for slope in bounds:
        if slope is not None:
            found = found + [line_at(point, slope) for point in points]
    return sorted_once(found)


def cheapest_bound(points, prices, bounds):
    """The lines of these that cost least, sorted."""
    return cheapest_of(priced(points, prices, bound_lines(points, bounds)))[1]


def is_price_at(price, slope, bounds):
    """Whether the price may stand at that slope: above 0 only at the high one, below 0 only at the low one."""
    if price[0] > 0:
        return slope == bounds[1]
    return price == NOUGHT or slope == bounds[0]


def bound_corners(points, prices, bounds):
    """The corners of the lines within the bounds that cost least, sorted."""
    need_bounded(points, prices, bounds)
    return cheapest_bound(points, prices, bounds)


def bound_signs(points, prices, bounds):
    """(signs, price): they fit the lines within the bounds that cost least."""
    need_bounded(points, prices, bounds)
    line = cheapest_bound(points, prices, bounds)[0]
    ones, others = both_filled(points, free_ends(points, prices, line))
    across = [point[0] for point in points]
    # The moment nearest to 0: where it is not 0 the cost would still fall beyond the bound.
    price = lesser(greater(NOUGHT, weighed(ones, across)), weighed(others, across))
    return (mixed_to(ones, others, across, price), price)


def bound_fit(points, prices, bounds, line, thing):
    """Whether it is a tuple of bound signs and a price that fit the line; False of one beyond the bounds."""
    need_priced(points, prices)
    need_bounds(bounds)
    need_line(line)
    if not is_within(line[1], bounds) or not isinstance(thing, tuple) or len(thing) != 2:
        return False
    signs, price = thing
    if not are_fractions(signs, len(points)) or not is_fraction(price):
        return False
    if not is_price_at(price, line[1], bounds) or not have_moment(points, signs, price):
        return False
    return lie_between(signs, free_ends(points, prices, line))
