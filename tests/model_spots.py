"""The document's words on spots and planes, reckoned anew by going through all threes of spots."""

import random
from itertools import combinations

from tests import model, samples
from tests.helpers import num, q


def rises(spots, plane):
    height, along, across = model.numbers([plane])[0]
    return [z - (height + along * x + across * y) for x, y, z, w in model.numbers(spots)]


def cost(spots, prices, plane):
    up, down = num(prices[0]), num(prices[1])
    weights = [num(spot[3]) for spot in spots]
    return sum(w * (up * rise if rise > 0 else -down * rise) for w, rise in zip(weights, rises(spots, plane)))


def is_wide(spots):
    for (x, y, _, _), (a, b, _, _), (c, d, _, _) in combinations(model.numbers(spots), 3):
        if (a - x) * (d - y) != (c - x) * (b - y):
            return True
    return False


def planes(spots):
    """All planes through three spots whose places are not on one straight line, sorted."""
    found = set()
    for (x, y, z, _), (a, b, c, _), (d, e, f, _) in combinations(model.numbers(spots), 3):
        # Two differences of spots, and what along and across make of them.
        a, b, c, d, e, f = a - x, b - y, c - z, d - x, e - y, f - z
        if a * e != d * b:
            across = (a * f - d * c) / (a * e - d * b)
            along = (c - across * b) / a if a != 0 else (f - across * e) / d
            found.add((z - along * x - across * y, along, across))
    return [model.told(plane) for plane in sorted(found)]


def corners(spots, prices):
    """The least cost, and the planes through three spots that come to it, sorted."""
    found = planes(spots)
    costs = [cost(spots, prices, plane) for plane in found]
    return min(costs), [plane for plane, one in zip(found, costs) if one == min(costs)]


def within(spots, prices, signs):
    up, down = num(prices[0]), num(prices[1])
    return all(-down * num(spot[3]) <= num(sign) <= up * num(spot[3]) for sign, spot in zip(signs, spots))


def is_balanced(spots, signs):
    rows = model.numbers(spots)
    return all(sum(num(sign) * part for sign, part in zip(signs, parts)) == 0 for parts in (
        [1] * len(rows), [one[0] for one in rows], [one[1] for one in rows]))


def fit(spots, prices, plane, signs):
    """Whether a list of as many fractions as spots is signs that fit the plane."""
    if not within(spots, prices, signs) or not is_balanced(spots, signs):
        return False
    up, down = num(prices[0]), num(prices[1])
    for sign, spot, rise in zip(signs, spots, rises(spots, plane)):
        if rise > 0 and num(sign) != up * num(spot[3]) or rise < 0 and num(sign) != -down * num(spot[3]):
            return False
    return True


def worth(spots, signs):
    return sum(num(sign) * num(spot[2]) for sign, spot in zip(signs, spots))


def mixed(planes, shares):
    return tuple(q(sum(num(plane[k]) * num(share) for plane, share in zip(planes, shares))) for k in range(3))


def beside(plane, k, by):
    """The plane with one of its three fractions more by so much, a number."""
    return tuple(q(num(part) + (by if at == k else 0)) for at, part in enumerate(plane))


def wide_ones(seed, each=2):
    """Wide spots of every make, with prices."""
    chance = random.Random(seed)
    lots = [spots for spots in samples.all_spots(seed + 1, each) if is_wide(spots)]
    return [(spots, samples.some_prices(chance)) for spots in lots]
