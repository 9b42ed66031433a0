"""Profiles: at each slope the least cost of any line of that slope."""

from signlines.best import need_priced
from signlines.fractions import need_fraction
from signlines.lines import priced
from signlines.orders import cheapest_of, sorted_once
from signlines.pairs import line_at, pair_lines_of
from signlines.points import need_spread
from signlines.reckon import ONE, added, divided, subtracted


def cost_at(points, prices, slope):
    """The least cost of any line of the slope, all known to be such."""
    # From height to height the cost bends only where a line goes through a point.
    return cheapest_of(priced(points, prices, [line_at(point, slope) for point in points]))[0]


def growth(one, other):
    """How much the cost grows for each unit of slope from one (slope, cost) to the other."""
    return divided(subtracted(other[1], one[1]), subtracted(other[0], one[0]))


def slope_cost(points, prices, slope):
    """The least cost of any line of the slope."""
    need_priced(points, prices)
    need_fraction(slope)
    return cost_at(points, prices, slope)


def profile(points, prices):
    """(ahead, knots, behind): the growth ahead of the first knot, the knots, the growth behind the last one."""
    need_priced(points, prices)
    need_spread(points)
    # Between the pair lines' slopes the points keep their order, seen along the slope, so that the cost goes straight.
    slopes = [row[0] for row in sorted_once([(line[1],) for line in pair_lines_of(points)])]
    slopes = [subtracted(slopes[0], ONE)] + slopes + [added(slopes[-1], ONE)]
    rows = [(slope, cost_at(points, prices, slope)) for slope in slopes]
    grown = [growth(one, other) for one, other in zip(rows, rows[1:])]
    knots = [row for row, ahead, behind in zip(rows[1:], grown, grown[1:]) if ahead != behind]
    return (grown[0], knots, grown[-1])
