"""Signs of spots: numbers at the spots that show that no plane costs less."""

from itertools import combinations

from signlines.fractions import are_fractions
from signlines.planes import need_wide_priced
from signlines.points import need_prices
from signlines.reckon import NOUGHT, ONE, divided, multiplied, negated, subtracted, total, weighed
from signlines.signs import ends_at, lie_between
from signlines.spots import need_plane, need_spots, spot_rise, turned


def shares_at(spot, three):
    """Of which shares of three places, below 0 ones too, the spot's place is mixed."""
    one, other, third = three
    whole = turned(one, other, third)
    found = [turned(spot, other, third), turned(one, spot, third), turned(one, other, spot)]
    return [divided(part, whole) for part in found]


def side_of(spots, three, shares, k):
    """A number above 0 where the spot counts as above the plane through three of them, else one below 0."""
    rise = subtracted(spots[k][2], weighed(shares, [spots[n][2] for n in three]))
    if rise != NOUGHT:
        return rise
    # On the plane: each spot counts as raised by a little, and by far more than all those behind it together.
    # So raised no four are on one plane, and the one best plane of theirs is best of the spots as they are, too.
    for n, share in zip(three, shares):
        if n < k and share != NOUGHT:
            return negated(share)
    return ONE


def signs_by(spots, prices, three):
    """Balanced numbers: at their ends at all spots but three, at these what the others leave to them."""
    found = [NOUGHT] * len(spots)
    for k, spot in enumerate(spots):
        if k not in three:
            shares = shares_at(spot, [spots[n] for n in three])
            found[k] = ends_at(spot[3], prices, side_of(spots, three, shares, k))[0]
            for n, share in zip(three, shares):
                found[n] = subtracted(found[n], multiplied(share, found[k]))
    return found


def wide_threes(spots):
    """A list of the numbers of each three spots whose places are not on one straight line."""
    found = []
    for one, other, third in combinations(range(len(spots)), 3):
        if turned(spots[one], spots[other], spots[third]) != NOUGHT:
            found.append((one, other, third))
    return found


def are_balanced(spots, signs):
    """Whether as many fractions as spots come to 0, also times the x, and times the y."""
    moments = [total(signs), weighed(signs, [spot[0] for spot in spots]), weighed(signs, [spot[1] for spot in spots])]
    return all(moment == NOUGHT for moment in moments)


def spot_signs(spots, prices):
    """Signs that fit the best planes."""
    need_wide_priced(spots, prices)
    free = [ends_at(spot[3], prices, NOUGHT) for spot in spots]
    lots = [signs_by(spots, prices, three) for three in wide_threes(spots)]
    # Those by the best plane of the spots so raised are within their ends; whichever are so fit the best planes.
    fitting = [signs for signs in lots if lie_between(signs, free)]
    return fitting[0]


def spot_fit(spots, prices, plane, thing):
    """Whether it is a list of balanced signs of the spots that fit the plane."""
    need_spots(spots)
    need_prices(prices)
    need_plane(plane)
    if not are_fractions(thing, len(spots)) or not are_balanced(spots, thing):
        return False
    return lie_between(thing, [ends_at(spot[3], prices, spot_rise(spot, plane)) for spot in spots])
