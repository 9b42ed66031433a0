"""Ranges of signs: the least and the greatest that a point has in any signs that fit the best lines."""

from signlines.best import cheapest, need_priced
from signlines.fillings import balanced_between, totals_at_no_moment
from signlines.lines import rise_of
from signlines.points import need_number, need_spread
from signlines.reckon import NOUGHT, added, divided, ends, greater, lesser, negated, subtracted, total
from signlines.signs import free_ends


def middle_line(points, prices):
    """The even mixture of all corners: a point is on it just where it is on every best line."""
    # No point is above one best line and beneath another, as signs that fit both would be at both ends.
    lines = cheapest(points, prices)[1]
    many = (len(lines), 1)
    return (divided(total([line[0] for line in lines]), many), divided(total([line[1] for line in lines]), many))


def with_ends(free, k, low, high):
    """The same ends, but other ones at one place."""
    return free[:k] + [(low, high)] + free[k + 1:]


def sign_range(points, free, k):
    """The least and the greatest sign at one place of balanced ones between those ends."""
    low, high = free[k]
    # Seen from that point its sign has no moment: the others come to a moment of 0, and to its opposite.
    far = [subtracted(point[0], points[k][0]) for point in points]
    least, most = ends(totals_at_no_moment(with_ends(free, k, NOUGHT, NOUGHT), far))
    return (greater(low, negated(most)), lesser(high, negated(least)))


def held_by(points, line):
    """The numbers of the points on the line."""
    return [k for k, point in enumerate(points) if rise_of(point, line) == NOUGHT]


def range_of(points, prices, k):
    """The least and the greatest sign of the point of that number in any signs that fit the best lines."""
    need_priced(points, prices)
    need_number(k, len(points))
    need_spread(points)
    return sign_range(points, free_ends(points, prices, middle_line(points, prices)), k)


def held(points, prices):
    """The numbers of the points on every best line, rising."""
    need_priced(points, prices)
    need_spread(points)
    return held_by(points, middle_line(points, prices))


def strict_signs(points, prices):
    """Signs that fit the best lines, at neither of their own ends at each point on every best line."""
    need_priced(points, prices)
    need_spread(points)
    line = middle_line(points, prices)
    free = free_ends(points, prices, line)
    # Evenly mixed of signs in the middle of each one's range in turn: of no range is an end left.
    lots = [balanced_between(points, free)]
    for k in held_by(points, line):
        low, high = sign_range(points, free, k)
        middle = divided(added(low, high), (2, 1))
        lots.append(balanced_between(points, with_ends(free, k, middle, middle)))
    return [divided(total(column), (len(lots), 1)) for column in zip(*lots)]
