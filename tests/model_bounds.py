"""The document's words on told bounds, on profiles and on mixtures, reckoned anew by going through all."""

from fractions import Fraction
from itertools import combinations

from tests import model, model_moving
from tests.helpers import num, q


def is_within(slope, bounds):
    """Whether a slope, a number, goes beyond neither of the bounds."""
    low, high = bounds
    return (low is None or num(low) <= slope) and (high is None or slope <= num(high))


def lines_of_slope(points, slope):
    """The lines of that slope, a number, through a point."""
    return [model.told((y - slope * x, slope)) for x, y, w in model.numbers(points)]


def bound_lines(points, bounds):
    """The pair lines within the bounds, and the lines of either bound's slope through a point, sorted."""
    found = [line for line in model.pair_lines(points) if is_within(num(line[1]), bounds)]
    for bound in bounds:
        if bound is not None:
            found += lines_of_slope(points, num(bound))
    return [model.told(line) for line in sorted(set(model.numbers(found)))]


def bound_corners(points, prices, bounds):
    """The least cost, and the lines of these that come to it, sorted."""
    lines = bound_lines(points, bounds)
    costs = [model.cost(points, prices, line) for line in lines]
    return min(costs), [line for line, one in zip(lines, costs) if one == min(costs)]


def bound_fit(points, prices, bounds, line, signs, price):
    """Whether a list of as many fractions as points, and a price, are bound signs that fit the line."""
    slope = num(line[1])
    if not is_within(slope, bounds) or not model_moving.within(points, prices, signs):
        return False
    if num(price) > 0 and line[1] != bounds[1] or num(price) < 0 and line[1] != bounds[0]:
        return False
    xs = [num(point[0]) for point in points]
    if sum(map(num, signs)) != 0 or sum(num(sign) * x for sign, x in zip(signs, xs)) != num(price):
        return False
    return model_moving.at_their_ends(points, prices, line, signs)


def slope_cost(points, prices, slope):
    """The least cost of any line of that slope, a number."""
    return min(model.cost(points, prices, line) for line in lines_of_slope(points, slope))


def profile(points, prices):
    """(ahead, knots, behind): the costs at all slopes of pair lines, and those that lie beneath the straight way."""
    marks = sorted({num(line[1]) for line in model.pair_lines(points)})
    marks = [marks[0] - 7] + marks + [marks[-1] + 5]
    costs = [slope_cost(points, prices, mark) for mark in marks]
    knots = []
    for k in range(1, len(marks) - 1):
        part = (marks[k] - marks[k - 1]) / (marks[k + 1] - marks[k - 1])
        if costs[k] < costs[k - 1] + part * (costs[k + 1] - costs[k - 1]):
            knots.append((q(marks[k]), q(costs[k])))
    return (costs[1] - costs[0]) / 7, knots, (costs[-1] - costs[-2]) / 5


def crossed(one, other):
    return one[0] * other[1] - one[1] * other[0]


def is_between(line, one, other):
    """Whether a line is mixed of two, all of them pairs of numbers."""
    a, b = [(part[0] - line[0], part[1] - line[1]) for part in (one, other)]
    return crossed(a, b) == 0 and a[0] * b[0] <= 0 and a[1] * b[1] <= 0


def is_mixture(lines, line):
    """Whether the line is one of the lines, lies between two or within three of them."""
    line = model.numbers([line])[0]
    some = sorted(set(model.numbers(lines)))
    if line in some or any(is_between(line, one, other) for one, other in combinations(some, 2)):
        return True
    away = [(height - line[0], slope - line[1]) for height, slope in some]
    for one, other, third in combinations(away, 3):
        turns = [crossed(one, other), crossed(other, third), crossed(third, one)]
        if all(turn > 0 for turn in turns) or all(turn < 0 for turn in turns):
            return True
    return False


def grown(points, prices, k, by):
    """How much the least cost grows where a point is raised by so much, a number; below 0 where it falls."""
    x, y, weight = points[k]
    raised = points[:k] + [(x, q(num(y) + by), weight)] + points[k + 1:]
    return model.corners(raised, prices)[0] - model.corners(points, prices)[0]


def rate(points, prices, k, side):
    """How much the least cost grows for each unit of a point's y, a little above it (side 1) or beneath (-1)."""
    step = Fraction(side, 2 ** 20)
    while True:
        here, nearer = [grown(points, prices, k, by) / by for by in (step, step / 2 ** 20)]
        # It bends upwards alone: where two steps tell one rate it goes straight as far as the longer one.
        if here == nearer:
            return here
        step /= 2 ** 20


def sign_range(points, prices, k):
    """The least and the greatest sign of a point: the two rates at which the least cost grows with its y."""
    return rate(points, prices, k, -1), rate(points, prices, k, 1)
