"""Lines: where they stand, what lies above and beneath, what they cost."""

from signlines.errors import NoLines, NoShares
from signlines.fractions import are_fractions, are_rows, need_factor, need_fraction
from signlines.points import need_line, need_points, need_prices, stand_at
from signlines.reckon import NOUGHT, ONE, added, divided, multiplied, subtracted, total, weighed

MOST_LINES = 30


def need_lines(thing):
    """Refuses what is no list of one to thirty lines."""
    if not are_rows(thing, MOST_LINES, 2):
        raise NoLines("a list of one to thirty lines, each a tuple of a height and a slope, belongs here")


def are_shares(thing, many):
    """Whether it is a list of so many fractions from 0 on that come to 1."""
    if not are_fractions(thing, many):
        return False
    return all(share[0] >= 0 for share in thing) and total(thing) == ONE


def rise_of(point, line):
    """The rise of a point over a line, both known to be such."""
    return subtracted(point[1], stand_at(line, point[0]))


def sums_of(points, line):
    """(over, under): the weighed distances above, and beneath, each together."""
    over = NOUGHT
    under = NOUGHT
    for point in points:
        rise = rise_of(point, line)
        part = multiplied(point[2], rise)
        if rise[0] > 0:
            over = added(over, part)
        else:
            under = subtracted(under, part)
    return (over, under)


def cost_of(points, prices, line):
    """What a line costs, all three known to be such."""
    return weighed(sums_of(points, line), prices)


def priced(points, prices, lines):
    """A list of (cost, line), in the order of the lines."""
    return [(cost_of(points, prices, line), line) for line in lines]


def stands(line, x):
    """Where the line stands at x."""
    need_line(line)
    need_fraction(x)
    return stand_at(line, x)


def rises(points, line):
    """A list: each point's rise over the line."""
    need_points(points)
    need_line(line)
    return [rise_of(point, line) for point in points]


def sides(points, line):
    """The weights of the points above, on and beneath the line, each together."""
    need_points(points)
    need_line(line)
    above = NOUGHT
    on = NOUGHT
    beneath = NOUGHT
    for point in points:
        rise = rise_of(point, line)
        if rise[0] > 0:
            above = added(above, point[2])
        elif rise[0] < 0:
            beneath = added(beneath, point[2])
        else:
            on = added(on, point[2])
    return (above, on, beneath)


def cost(points, prices, line):
    """What the line costs at the prices."""
    need_points(points)
    need_prices(prices)
    need_line(line)
    return cost_of(points, prices, line)


def mixed(lines, shares):
    """The line of the heights, and of the slopes, times the shares, together."""
    need_lines(lines)
    if not are_shares(shares, len(lines)):
        raise NoShares("shares are a list of fractions from 0 on, one for each line, that come to 1")
    height = weighed(shares, [line[0] for line in lines])
    slope = weighed(shares, [line[1] for line in lines])
    return (height, slope)


def tilted_line(line, other):
    """The line of both heights and both slopes added."""
    need_line(line)
    need_line(other)
    return (added(line[0], other[0]), added(line[1], other[1]))


def stretched_line(line, across, tall):
    """The line that goes along with points so stretched."""
    need_line(line)
    need_factor(across)
    need_factor(tall)
    return (multiplied(line[0], tall), divided(multiplied(line[1], tall), across))
