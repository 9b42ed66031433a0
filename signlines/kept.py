"""Kept points, and a best line that follows their changes by exchanges."""

from signlines.errors import NoDeed, NoPoints
from signlines.points import MOST_POINTS, has_two_x, need_number, need_point, need_prices
from signlines.roads import priced_pair_lines, road_from


def road_of(points, prices, line):
    """A road to a best line of the points; from the line, where that still is a pair line of theirs."""
    if not has_two_x(points):
        return []
    rows = priced_pair_lines(points, prices)
    found = road_from(points, rows, line)
    if found is None:
        found = road_from(points, rows, rows[0][1])
    return found


def with_one_more(points, x, y, weight):
    """A new list of the points, one more behind all others."""
    point = (x, y, weight)
    need_point(point)
    if len(points) == MOST_POINTS:
        raise NoPoints("there are twelve points at most")
    return points + [point]


def without(points, k):
    """A new list of the points but that of the number."""
    need_number(k, len(points))
    return points[:k] + points[k + 1:]


def with_other(points, k, x, y, weight):
    """A new list of the points, another one in the place of that of the number."""
    need_number(k, len(points))
    point = (x, y, weight)
    need_point(point)
    return points[:k] + [point] + points[k + 1:]


class Kept:
    """Points, none at first, at prices."""

    def __init__(self, prices):
        need_prices(prices)
        self._prices = prices
        self._points = []
        self._line = None
        # What the points and the line were ahead of each change that isn't undone.
        self._past = []

    def put(self, x, y, weight):
        """One more point behind all others; a road is told."""
        return self._change(with_one_more(self._points, x, y, weight))

    def take(self, k):
        """The point of that number out, those behind it down by one; a road is told."""
        return self._change(without(self._points, k))

    def move(self, k, x, y, weight):
        """Another point in the place of that number's; a road is told."""
        return self._change(with_other(self._points, k, x, y, weight))

    def undo(self):
        """Points and line as they were ahead of the last change that isn't undone yet."""
        if len(self._past) == 0:
            raise NoDeed("there is nothing to undo")
        self._points, self._line = self._past.pop()

    def points(self):
        """A list of the points as they are."""
        return list(self._points)

    def line(self):
        """The line that the last road led to, or None."""
        return self._line

    def _change(self, points):
        found = road_of(points, self._prices, self._line)
        self._past.append((self._points, self._line))
        self._points = points
        self._line = found[-1] if len(found) > 0 else None
        return found
