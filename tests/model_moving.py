"""The document's words on prices that move and on told places, reckoned anew by going through all."""

from fractions import Fraction

from tests import model
from tests.helpers import num, q


def at(t):
    """The prices at t."""
    return (q(t), q(1 - t))


def priced_sums(points):
    """A list of (over, under, line): of each pair line."""
    return [model.sums(points, line) + (line,) for line in model.pair_lines(points)]


def least_at(rows, t):
    """The least cost at t, and the lines that come to it, sorted."""
    costs = [over * t + under * (1 - t) for over, under, line in rows]
    return min(costs), [row[2] for row, cost in zip(rows, costs) if cost == min(costs)]


def crossings(rows):
    """Every t above 0 and below 1 at which two of the lines cost alike."""
    found = set()
    for over, under, _ in rows:
        for more, fewer, _ in rows:
            if over < more and under > fewer:
                found.add((under - fewer) / (under - fewer + more - over))
    return sorted(found)


def moving(points):
    """The turns, and the corners ahead of, between and behind them, by going through every crossing."""
    rows = priced_sums(points)
    marks = [Fraction(0)] + crossings(rows) + [Fraction(1)]
    lots = [least_at(rows, (one + other) / 2)[1] for one, other in zip(marks, marks[1:])]
    turns, between = [], [lots[0]]
    for mark, ahead, behind in zip(marks[1:], lots, lots[1:]):
        here = least_at(rows, mark)[1]
        if here != ahead or here != behind:
            turns.append(mark)
            between.append(behind)
    return turns, between


def pinned_line(place, slope):
    """The line of that slope, a number, through the place."""
    return (q(num(place[1]) - slope * num(place[0])), q(slope))


def slopes_from(points, place):
    """The slopes from the place to each point of another x."""
    a, b = num(place[0]), num(place[1])
    return [(y - b) / (x - a) for x, y, w in model.numbers(points) if x != a]


def pinned_cost(points, prices, place, slope):
    return model.cost(points, prices, pinned_line(place, slope))


def pinned_slopes(points, prices, place):
    """The least cost of the lines from the place to a point, and the least and the greatest slope of such."""
    found = slopes_from(points, place)
    costs = [pinned_cost(points, prices, place, slope) for slope in found]
    best = [slope for slope, cost in zip(found, costs) if cost == min(costs)]
    return min(costs), min(best), max(best)


def pinned_moment(points, place, signs):
    """The signs, each times its point's x less the place's x, together."""
    return sum(num(sign) * (x - num(place[0])) for sign, (x, y, w) in zip(signs, model.numbers(points)))


def pinned_worth(points, place, signs):
    return sum(num(sign) * (y - num(place[1])) for sign, (x, y, w) in zip(signs, model.numbers(points)))


def within(points, prices, signs):
    up, down = num(prices[0]), num(prices[1])
    return all(-down * w <= num(sign) <= up * w for sign, (x, y, w) in zip(signs, model.numbers(points)))


def at_their_ends(points, prices, line, signs):
    """Whether the signs are at their own ends above and beneath the line."""
    up, down = num(prices[0]), num(prices[1])
    for sign, (x, y, w), rise in zip(signs, model.numbers(points), model.rises(points, line)):
        if rise > 0 and num(sign) != up * w or rise < 0 and num(sign) != -down * w:
            return False
    return True


def pinned_fit(points, prices, place, slope, signs):
    """Whether a list of as many fractions as points is pinned signs that fit the line of that slope, a number."""
    if not within(points, prices, signs) or pinned_moment(points, place, signs) != 0:
        return False
    return at_their_ends(points, prices, pinned_line(place, slope), signs)
