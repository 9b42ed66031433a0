"""The document's words on greatest distances and alternations, reckoned anew by going through all."""

from fractions import Fraction
from itertools import combinations

from tests import model
from tests.helpers import num


def width(points, line):
    weights = [num(point[2]) for point in points]
    return max(w * abs(rise) for w, rise in zip(weights, model.rises(points, line)))


def comes_to(points, rows):
    """What an alternation comes to, by the document's words."""
    above = beneath = Fraction(0)
    for k, sign, share in rows:
        above += sign * num(share) * num(points[k][1])
        beneath += num(share) / num(points[k][2])
    return above / beneath


def is_alternation(points, rows):
    """Whether rows of numbers, signs and shares, each of its right kind, are an alternation."""
    numbers = [k for k, sign, share in rows]
    if len(set(numbers)) != len(numbers) or sum(num(share) for k, sign, share in rows) != 1:
        return False
    moment = sum(sign * num(share) * num(points[k][0]) for k, sign, share in rows)
    return sum(sign * num(share) for k, sign, share in rows) == 0 and moment == 0


def least_width(points):
    """The greatest that twos of one x and threes of unlike x come to."""
    found = [Fraction(0)]
    rows = model.numbers(points)
    for (x, y, w), (a, b, v) in combinations(rows, 2):
        if x == a:
            found.append(abs(y - b) / (1 / w + 1 / v))
    for three in combinations(rows, 3):
        (x, y, w), (a, b, v), (c, d, u) = sorted(three)
        if x < a < c:
            part = (a - x) / (c - x)
            off = abs(b - y - part * (d - y))
            found.append(off / ((1 - part) / w + 1 / v + part / u))
    return max(found)


def narrowest(points):
    """The lines at which two bounds meet and the width is least, sorted: the ends of all narrowest lines."""
    least = least_width(points)
    found = set()
    ends = [(x, y + side * least / w) for x, y, w in model.numbers(points) for side in (-1, 1)]
    for (x, y), (a, b) in combinations(ends, 2):
        if x != a:
            slope = (b - y) / (a - x)
            found.add((y - slope * x, slope))
    lines = [model.told(line) for line in sorted(found)]
    return [line for line in lines if width(points, line) == least]
