"""Best lines: those that cost least."""

from signlines.lines import cost_of, priced
from signlines.orders import cheapest_of
from signlines.pairs import pair_lines_of
from signlines.points import is_line, need_points, need_prices, need_spread


def cheapest(points, prices):
    """The least cost, and the pair lines that come to it, sorted; of spread points."""
    # The pair lines are enough: over a cell between them the cost goes straight,
    # and among spread points it grows without end far away.
    return cheapest_of(priced(points, prices, pair_lines_of(points)))


def need_priced(points, prices):
    """Refuses points and prices that are none."""
    need_points(points)
    need_prices(prices)


def least_cost(points, prices):
    """What the best lines cost."""
    need_priced(points, prices)
    need_spread(points)
    return cheapest(points, prices)[0]


def best_line(points, prices):
    """The first of the pair lines that are best."""
    need_priced(points, prices)
    need_spread(points)
    return cheapest(points, prices)[1][0]


def is_best(points, prices, thing):
    """Whether it is a line, and none costs less."""
    need_priced(points, prices)
    need_spread(points)
    if not is_line(thing):
        return False
    return cost_of(points, prices, thing) == cheapest(points, prices)[0]
