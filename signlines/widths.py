"""Greatest distances from lines, and the lines of which they are least."""

from signlines.alternation import widest
from signlines.lines import rise_of
from signlines.orders import sorted_once
from signlines.pairs import line_at, pair_lines_of, slope_to
from signlines.points import need_line, need_points, need_spread
from signlines.reckon import NOUGHT, added, divided, ends, greater, multiplied, size_of, subtracted


def place_off(points, row, least):
    """Where all lines of the least width go by a point of an alternation that comes to it."""
    k, sign, _ = row
    x, y, weight = points[k]
    far = divided(least, weight)
    return (x, subtracted(y, far) if sign == 1 else added(y, far))


def slopes_within(points, place, least):
    """The least and the greatest slope of the lines through the place that are of that width."""
    lows = []
    highs = []
    for x, y, weight in points:
        if x != place[0]:
            far = divided(least, weight)
            low, high = ends([slope_to(place, (x, subtracted(y, far))), slope_to(place, (x, added(y, far)))])
            lows.append(low)
            highs.append(high)
    return (ends(lows)[1], ends(highs)[0])


def width(points, line):
    """The greatest of the points' weights times their distances up or down from the line."""
    need_points(points)
    need_line(line)
    found = NOUGHT
    for point in points:
        found = greater(found, multiplied(point[2], size_of(rise_of(point, line))))
    return found


def least_width(points):
    """The width of the narrowest lines."""
    need_points(points)
    need_spread(points)
    return widest(points)[0]


def narrowest(points):
    """A list, sorted: the one line of the least width, or the two of which all such are mixtures."""
    need_points(points)
    need_spread(points)
    least, found = widest(points)
    if len(found) == 0:
        # A width of 0: all points are on the one pair line.
        return pair_lines_of(points)
    place = place_off(points, found[0], least)
    low, high = slopes_within(points, place, least)
    # Where three points alternate low and high are one slope.
    return sorted_once([line_at(place, low), line_at(place, high)])
