"""All best lines: their corners, and how far they reach."""

from signlines.best import cheapest, need_priced
from signlines.fractions import need_fraction
from signlines.points import need_spread, stand_at
from signlines.reckon import ends


def corners(points, prices):
    """The best pair lines, sorted."""
    need_priced(points, prices)
    need_spread(points)
    return cheapest(points, prices)[1]


def kind(points, prices):
    """0 where there is one corner, 1 where there are two, 2 where there are more."""
    return min(len(corners(points, prices)) - 1, 2)


def slopes(points, prices):
    """The least and the greatest slope of best lines."""
    # Best lines are mixtures of the corners, so that corners have both ends.
    return ends([line[1] for line in corners(points, prices)])


def heights(points, prices, x):
    """The least and the greatest number at which best lines stand at x."""
    need_priced(points, prices)
    need_fraction(x)
    return ends([stand_at(line, x) for line in corners(points, prices)])
