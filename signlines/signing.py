"""Signs of a line that is told, and of the best lines."""

from signlines.best import cheapest, need_priced
from signlines.fillings import balanced_between
from signlines.points import need_line, need_spread
from signlines.signs import free_ends


def signs_of(points, prices, line):
    """Signs that fit the line, or None where it isn't best."""
    need_priced(points, prices)
    need_line(line)
    need_spread(points)
    return balanced_between(points, free_ends(points, prices, line))


def best_signs(points, prices):
    """Signs that fit the best lines."""
    need_priced(points, prices)
    need_spread(points)
    line = cheapest(points, prices)[1][0]
    return balanced_between(points, free_ends(points, prices, line))
