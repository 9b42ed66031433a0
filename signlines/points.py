"""Points, prices and lines: what they are, and points that are moved."""

from signlines.errors import NoLine, NoNumber, NoPoints, NoPrices, NoSpread
from signlines.fractions import are_weighed, is_row, is_whole, need_factor
from signlines.reckon import added, multiplied

MOST_POINTS = 12


def is_point(thing):
    """Whether it is a tuple (x, y, weight), the weight above 0."""
    return is_row(thing, 3) and thing[2][0] > 0


def is_points(thing):
    """Whether it is a list of one to twelve points."""
    return are_weighed(thing, MOST_POINTS, 3)


def is_prices(thing):
    """Whether it is a tuple (up, down), both above 0."""
    return is_row(thing, 2) and thing[0][0] > 0 and thing[1][0] > 0


def is_line(thing):
    """Whether it is a tuple (height, slope)."""
    return is_row(thing, 2)


def is_number(thing, many):
    """Whether it is the number of one of so many points."""
    return is_whole(thing) and 0 <= thing < many


def need_point(thing):
    if not is_point(thing):
        raise NoPoints("a point is a tuple of x, y and a weight above 0")


def need_points(thing):
    if not is_points(thing):
        raise NoPoints("points are a list of one to twelve tuples of x, y and a weight above 0")


def need_prices(thing):
    if not is_prices(thing):
        raise NoPrices("prices are a tuple of two fractions above 0")


def need_number(thing, many):
    if not is_number(thing, many):
        raise NoNumber("a point's number is a whole number from 0 on, less than there are points")


def need_line(thing):
    if not is_line(thing):
        raise NoLine("a line is a tuple of two fractions, its height and its slope")


def has_two_x(points):
    """Whether two of the points have unlike x."""
    return any(point[0] != points[0][0] for point in points)


def need_spread(points):
    """Refuses points, known to be such, that all have one x."""
    if not has_two_x(points):
        raise NoSpread("two points of unlike x belong here")


def is_spread(points):
    """Whether two of the points have unlike x."""
    need_points(points)
    return has_two_x(points)


def stand_at(line, x):
    """Where a line, known to be one, stands at x."""
    return added(line[0], multiplied(line[1], x))


def tilted(points, line):
    """Points, each y more by where the line stands at its x."""
    need_points(points)
    need_line(line)
    return [(x, added(y, stand_at(line, x)), weight) for x, y, weight in points]


def stretched(points, across, tall):
    """Points, each x times across and each y times tall."""
    need_points(points)
    need_factor(across)
    need_factor(tall)
    return [(multiplied(x, across), multiplied(y, tall), weight) for x, y, weight in points]
