"""Lines through two points."""

from itertools import combinations

from signlines.orders import sorted_once
from signlines.points import need_point, need_points, need_spread
from signlines.reckon import divided, multiplied, subtracted


def slope_to(place, point):
    """The slope from a place to a point of another x."""
    return divided(subtracted(point[1], place[1]), subtracted(point[0], place[0]))


def line_at(place, slope):
    """The line of that slope that goes through the place."""
    return (subtracted(place[1], multiplied(slope, place[0])), slope)


def line_through(one, other):
    """The line through two points, known to be such, or None where their x are alike."""
    if one[0] == other[0]:
        return None
    return line_at(one, slope_to(one, other))


def pair_lines_of(points):
    """All pair lines of points that are known to be such, sorted."""
    found = []
    for one, other in combinations(points, 2):
        line = line_through(one, other)
        if line is not None:
            found.append(line)
    return sorted_once(found)


def through(one, other):
    """The line through two points, or None where their x are alike."""
    need_point(one)
    need_point(other)
    return line_through(one, other)


def pair_lines(points):
    """The lines through two points of unlike x, each once, sorted."""
    need_points(points)
    need_spread(points)
    return pair_lines_of(points)
