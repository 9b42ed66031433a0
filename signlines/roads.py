"""Roads: exchanges from pair line to pair line, each to a lesser cost, to a line that is best."""

from signlines.best import need_priced
from signlines.errors import NoPair
from signlines.lines import priced, rise_of
from signlines.pairs import pair_lines_of
from signlines.points import has_two_x, is_line, need_line, need_spread
from signlines.reckon import NOUGHT, is_less


def priced_pair_lines(points, prices):
    """A list of (cost, line): all pair lines, sorted, with their costs."""
    return priced(points, prices, pair_lines_of(points))


def share_a_point(points, one, other):
    """Whether some point is on both lines."""
    return any(rise_of(point, one) == NOUGHT and rise_of(point, other) == NOUGHT for point in points)


def cost_among(rows, line):
    """The cost of a pair line, or None of what is none."""
    for here, other in rows:
        if other == line:
            return here
    return None


def next_row(points, rows, row):
    """Of the pair lines that cost less, and have a point in common with this one, the cheapest, or None."""
    found = None
    for other in rows:
        if is_less(other[0], row[0]) and share_a_point(points, row[1], other[1]):
            if found is None or is_less(other[0], found[0]):
                found = other
    return found


def road_from(points, rows, line):
    """The road from a pair line, or None where it is none of the rows."""
    here = cost_among(rows, line)
    if here is None:
        return None
    found = []
    # From each line that isn't best a cheaper one leads on, so where none does the line is best.
    row = (here, line)
    while row is not None:
        found.append(row[1])
        row = next_row(points, rows, row)
    return found


def leads_on(points, rows, one, other):
    """Whether the other one may stand behind the one in a road; both are pair lines."""
    return is_less(cost_among(rows, other), cost_among(rows, one)) and share_a_point(points, one, other)


def ends_best(rows, line):
    """Whether no pair line costs less than this one."""
    least = cost_among(rows, line)
    return not any(is_less(here, least) for here, _ in rows)


def road(points, prices, line):
    """A list of pair lines, that one first, the last one best."""
    need_priced(points, prices)
    need_line(line)
    need_spread(points)
    found = road_from(points, priced_pair_lines(points, prices), line)
    if found is None:
        raise NoPair("a road leads on from a line through two points of unlike x")
    return found


def is_road(points, prices, thing):
    """Whether it is a road from its first line; False where the points aren't spread."""
    need_priced(points, prices)
    if not has_two_x(points) or not isinstance(thing, list) or len(thing) == 0:
        return False
    rows = priced_pair_lines(points, prices)
    if not all(is_line(part) and cost_among(rows, part) is not None for part in thing):
        return False
    for one, other in zip(thing, thing[1:]):
        if not leads_on(points, rows, one, other):
            return False
    return ends_best(rows, thing[-1])
