"""Signs: numbers at the points that show that no line costs less."""

from signlines.errors import NoShares
from signlines.fractions import are_fractions
from signlines.lines import rise_of
from signlines.points import need_line, need_points, need_prices
from signlines.reckon import NOUGHT, is_less, multiplied, negated, total, weighed


def ends_at(weight, prices, rise):
    """The least and the greatest sign that fits, at a point or spot of that weight and rise."""
    up, down = prices
    low = negated(multiplied(down, weight))
    high = multiplied(up, weight)
    if rise[0] > 0:
        return (high, high)
    if rise[0] < 0:
        return (low, low)
    return (low, high)


def own_ends(points, prices):
    """A list of (low, high): between these lies each point's sign."""
    return [ends_at(point[2], prices, NOUGHT) for point in points]


def free_ends(points, prices, line):
    """A list of (low, high): between these lies each point's sign in signs that fit the line."""
    return [ends_at(point[2], prices, rise_of(point, line)) for point in points]


def lie_between(signs, ends):
    """Whether each sign lies between its (low, high)."""
    for sign, (low, high) in zip(signs, ends):
        if is_less(sign, low) or is_less(high, sign):
            return False
    return True


def have_moment(points, signs, moment):
    """Whether as many fractions as points come to 0, and times the x to the moment."""
    return total(signs) == NOUGHT and weighed(signs, [point[0] for point in points]) == moment


def are_signs(points, prices, thing):
    """Whether it is a list of signs at the prices, one for each point."""
    need_points(points)
    need_prices(prices)
    return are_fractions(thing, len(points)) and lie_between(thing, own_ends(points, prices))


def is_balanced(points, thing):
    """Whether it is a list of as many fractions as points, and balanced."""
    need_points(points)
    return are_fractions(thing, len(points)) and have_moment(points, thing, NOUGHT)


def fit(points, prices, line, thing):
    """Whether it is a list of balanced signs that fit the line."""
    need_points(points)
    need_prices(prices)
    need_line(line)
    if not are_fractions(thing, len(points)) or not have_moment(points, thing, NOUGHT):
        return False
    return lie_between(thing, free_ends(points, prices, line))


def worth(points, signs):
    """Each sign times its point's y, together."""
    need_points(points)
    if not are_fractions(signs, len(points)):
        raise NoShares("a list of as many fractions as there are points belongs here")
    return weighed(signs, [point[1] for point in points])
