"""Sums of lines, and the prices at which a line is best."""

from signlines.lines import sums_of
from signlines.pairs import pair_lines_of
from signlines.points import need_line, need_points, need_spread
from signlines.reckon import NOUGHT, ONE, divided, greater, lesser, is_less, subtracted


def sums(points, line):
    """(over, under): the weighed distances above, and beneath, each together."""
    need_points(points)
    need_line(line)
    return sums_of(points, line)


def narrowed(low, high, own, other):
    """The part of low to high at which own sums cost no more than the other ones, or None."""
    over = subtracted(own[0], other[0])
    under = subtracted(own[1], other[1])
    if over[0] <= 0 and under[0] <= 0:
        return (low, high)
    if over[0] >= 0 and under[0] >= 0:
        return None
    # One sum is less and one more: alike costs at a t above 0 and below 1.
    meeting = divided(under, subtracted(under, over))
    if over[0] > 0:
        return (low, lesser(high, meeting))
    return (greater(low, meeting), high)


def span(points, line):
    """(low, high): the line is best at each t between, or None: at none."""
    need_points(points)
    need_line(line)
    need_spread(points)
    own = sums_of(points, line)
    reach = (NOUGHT, ONE)
    for other in pair_lines_of(points):
        reach = narrowed(reach[0], reach[1], own, sums_of(points, other))
        if reach is None or is_less(reach[1], reach[0]):
            return None
    return reach
