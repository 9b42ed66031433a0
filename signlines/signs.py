"""Signs: numbers at the points that show that no line costs less."""

from signlines.errors import NoShares
from signlines.fractions import are_fractions
from signlines.lines import rise_of
from signlines.points import need_line, need_points, need_prices
from signlines.reckon import NOUGHT, is_less, multiplied, negated, total, weighed


def ends_at(point, prices):
    """The least and the greatest sign that a point may have."""
    up, down = prices
    return (negated(multiplied(down, point[2])), multiplied(up, point[2]))


def lie_within(points, prices, signs):
    """Whether as many fractions as points lie within their ends."""
    for point, sign in zip(points, signs):
        low, high = ends_at(point, prices)
        if is_less(sign, low) or is_less(high, sign):
            return False
    return True


def balance(points, signs):
    """Whether as many fractions as points come to 0, also times the x."""
    if total(signs) != NOUGHT:
        return False
    return weighed(signs, [point[0] for point in points]) == NOUGHT


def reach_ends(points, prices, line, signs):
    """Whether the signs are at their own ends at each point off the line."""
    for point, sign in zip(points, signs):
        low, high = ends_at(point, prices)
        rise = rise_of(point, line)
        if rise[0] > 0 and sign != high or rise[0] < 0 and sign != low:
            return False
    return True


def are_signs(points, prices, thing):
    """Whether it is a list of signs at the prices, one for each point."""
    need_points(points)
    need_prices(prices)
    return are_fractions(thing, len(points)) and lie_within(points, prices, thing)


def is_balanced(points, thing):
    """Whether it is a list of as many fractions as points, and balanced."""
    need_points(points)
    return are_fractions(thing, len(points)) and balance(points, thing)


def fit(points, prices, line, thing):
    """Whether it is a list of balanced signs that fit the line."""
    need_points(points)
    need_prices(prices)
    need_line(line)
    if not are_fractions(thing, len(points)) or not lie_within(points, prices, thing):
        return False
    return balance(points, thing) and reach_ends(points, prices, line, thing)


def worth(points, signs):
    """Each sign times its point's y, together."""
    need_points(points)
    if not are_fractions(signs, len(points)):
        raise NoShares("a list of as many fractions as there are points belongs here")
    return weighed(signs, [point[1] for point in points])
