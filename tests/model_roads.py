"""The document's words on roads, reckoned anew."""

from tests import model


def common_point(points, one, other):
    """Whether some point is on both lines."""
    return any(a == 0 and b == 0 for a, b in zip(model.rises(points, one), model.rises(points, other)))


def is_road(points, prices, lines):
    """Whether lines, all known to be such, are a road from the first one."""
    if lines == [] or len({point[0] for point in points}) < 2:
        return False
    all_lines = model.pair_lines(points)
    if any(line not in all_lines for line in lines):
        return False
    costs = [model.cost(points, prices, line) for line in lines]
    for one, other, dear, cheap in zip(lines, lines[1:], costs, costs[1:]):
        if cheap >= dear or not common_point(points, one, other):
            return False
    return costs[-1] == model.corners(points, prices)[0]


def any_road(chance, points, prices, line):
    """A road from the line by exchanges of any kind, not only by the best ones."""
    found = [line]
    while True:
        here = model.cost(points, prices, found[-1])
        steps = [other for other in model.pair_lines(points)
                 if model.cost(points, prices, other) < here and common_point(points, found[-1], other)]
        if not steps:
            return found
        found.append(chance.choice(steps))
