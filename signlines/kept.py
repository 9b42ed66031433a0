"""Kept points, and a best line that follows their changes by exchanges."""

from signlines.errors import NoDeed, NoNumber, NoPoints
from signlines.points import MOST_POINTS, has_two_x, is_number, need_point, need_prices
from signlines.roads import priced_pair_lines, road_from


def road_of(points, prices, line):
    """A road to a best line of the points; from the line, where that still is a pair line of theirs."""
    if not has_two_x(points):
        return []
    rows = priced_pair_lines(points, prices)
    found = road_from(points, rows, line)
    if found is None:
        found = road_from(points, rows, rows[0][1])
    return found


class Kept:
    """Points, none at first, at prices."""

    def __init__(self, prices):
        need_prices(prices)
        self._prices = prices
        self._points = []
        self._line = None
        # What the points and the line were ahead of each change that isn't undone.
        self._past = []

    def put(self, x, y, weight):
        """One more point behind all others; a road is told."""
        point = (x, y, weight)
        need_point(point)
        if len(self._points) == MOST_POINTS:
            raise NoPoints("there are twelve points at most")
        return self._change(self._points + [point])

    def take(self, k):
        """The point of that number out, those behind it down by one; a road is told."""
        self._need_number(k)
        return self._change(self._points[:k] + self._points[k + 1:])

    def move(self, k, x, y, weight):
        """Another point in the place of that number's; a road is told."""
        self._need_number(k)
        point = (x, y, weight)
        need_point(point)
        return self._change(self._points[:k] + [point] + self._points[k + 1:])

    def undo(self):
        """Points and line as they were ahead of the last change that isn't undone yet."""
        if len(self._past) == 0:
            raise NoDeed("there is nothing to undo")
        self._points, self._line = self._past.pop()

    def points(self):
        """A list of the points as they are."""
        return list(self._points)

    def line(self):
        """The line that the last road led to, or None."""
        return self._line

    def _need_number(self, k):
        if not is_number(k, len(self._points)):
            raise NoNumber("a point's number is a whole number from 0 on, less than there are points")

    def _change(self, points):
        found = road_of(points, self._prices, self._line)
        self._past.append((self._points, self._line))
        self._points = points
        self._line = found[-1] if len(found) > 0 else None
        return found
