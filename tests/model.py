"""The document's words reckoned anew, by Python's own fractions and by going through all."""

from fractions import Fraction
from itertools import combinations

from tests.helpers import num, q


def numbers(rows):
    return [tuple(num(part) for part in one) for one in rows]


def told(one):
    return tuple(q(part) for part in one)


def stands(line, x):
    return line[0] + line[1] * x


def rises(points, line):
    h, s = numbers([line])[0]
    return [y - (h + s * x) for x, y, w in numbers(points)]


def sums(points, line):
    over = under = Fraction(0)
    for (x, y, w), rise in zip(numbers(points), rises(points, line)):
        if rise > 0:
            over += w * rise
        if rise < 0:
            under += w * -rise
    return over, under


def cost(points, prices, line):
    over, under = sums(points, line)
    return over * num(prices[0]) + under * num(prices[1])


def sides(points, line):
    found = [Fraction(0)] * 3
    for (x, y, w), rise in zip(numbers(points), rises(points, line)):
        found[0 if rise > 0 else 1 if rise == 0 else 2] += w
    return tuple(found)


def pair_lines(points):
    found = set()
    for (x, y, _), (v, z, _) in combinations(numbers(points), 2):
        if x != v:
            slope = (z - y) / (v - x)
            found.add((y - slope * x, slope))
    return [told(line) for line in sorted(found)]


def corners(points, prices):
    """The least cost, and the pair lines that come to it, sorted."""
    lines = pair_lines(points)
    costs = [cost(points, prices, line) for line in lines]
    return min(costs), [line for line, one in zip(lines, costs) if one == min(costs)]


def mixed(lines, shares):
    weights = [num(share) for share in shares]
    return tuple(q(sum(num(line[k]) * share for line, share in zip(lines, weights))) for k in (0, 1))


def filled(ends, order, wanted):
    """Signs as great as can be, one by one, till the total is come to; all others as small as can be."""
    found = [low for low, high in ends]
    for k in order:
        low, high = ends[k]
        found[k] = min(high, low + wanted - sum(found))
    return found


def signs(points, prices, line):
    """Signs that fit the line, or None: two fillings of the points on it, and their mixture."""
    up, down = num(prices[0]), num(prices[1])
    xs, weights = [x for x, y, w in numbers(points)], [w for x, y, w in numbers(points)]
    over = rises(points, line)
    found = [up * w if rise > 0 else -down * w for w, rise in zip(weights, over)]
    on = [k for k, rise in enumerate(over) if rise == 0]
    wanted = -sum(found[k] for k in range(len(xs)) if k not in on)
    moment = -sum(found[k] * xs[k] for k in range(len(xs)) if k not in on)
    ends = [(-down * weights[k], up * weights[k]) for k in on]
    if not sum(low for low, high in ends) <= wanted <= sum(high for low, high in ends):
        return None
    order = sorted(range(len(on)), key=lambda at: xs[on[at]])
    left, right = filled(ends, order, wanted), filled(ends, order[::-1], wanted)
    least, most = (sum(sign * xs[k] for sign, k in zip(fill, on)) for fill in (left, right))
    if not least <= moment <= most:
        return None
    part = (moment - least) / (most - least) if most > least else Fraction(0)
    for at, k in enumerate(on):
        found[k] = left[at] * (1 - part) + right[at] * part
    return [q(sign) for sign in found]
