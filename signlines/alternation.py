"""Alternations: points, by turns above and beneath, that show that no line is narrower."""

from itertools import combinations

from signlines.fractions import is_fraction, is_whole
from signlines.orders import rising
from signlines.points import is_number, need_points, need_spread
from signlines.reckon import NOUGHT, ONE, divided, is_less, multiplied, negated, subtracted, total, weighed

HALF = (1, 2)


def signed_shares(rows):
    """A list: of each (k, sign, share) the sign times the share."""
    return [share if sign == 1 else negated(share) for _, sign, share in rows]


def come_of(points, rows):
    """What an alternation, known to be one, comes to."""
    above = weighed(signed_shares(rows), [points[row[0]][1] for row in rows])
    beneath = total([divided(share, points[k][2]) for k, _, share in rows])
    return divided(above, beneath)


def turned_over(rows):
    """The alternation with each sign the other way."""
    return [(k, -sign, share) for k, sign, share in rows]


def row_of_two(points, one, other):
    """The alternation of two points of one x, the one with the sign 1 first."""
    if is_less(points[one][1], points[other][1]):
        one, other = other, one
    return [(one, 1, HALF), (other, -1, HALF)]


def row_of_three(points, left, middle, right):
    """The alternation of three points of rising x that comes to 0 or more."""
    # Half of all is the middle one's, so the signs come to 0; the ends part the other half by their distances.
    whole = subtracted(points[right][0], points[left][0])
    part = divided(subtracted(points[middle][0], points[left][0]), whole)
    found = [(left, 1, multiplied(HALF, subtracted(ONE, part))), (middle, -1, HALF), (right, 1, multiplied(HALF, part))]
    if come_of(points, found)[0] < 0:
        return turned_over(found)
    return found


def all_rows(points):
    """The alternations of each two points of one x and of each three of unlike x."""
    order = rising([point[0] for point in points])
    found = []
    for one, other in combinations(order, 2):
        if points[one][0] == points[other][0]:
            found.append(row_of_two(points, one, other))
    for left, middle, right in combinations(order, 3):
        if points[left][0] != points[middle][0] and points[middle][0] != points[right][0]:
            found.append(row_of_three(points, left, middle, right))
    return found


def widest(points):
    """(width, alternation): the least width, and what comes to it, the empty list where it is 0."""
    width = NOUGHT
    found = []
    for rows in all_rows(points):
        here = come_of(points, rows)
        if is_less(width, here):
            width = here
            found = rows
    return (width, found)


def is_part(thing, many):
    """Whether it is a tuple of a number of so many points, a sign 1 or -1, and a share above 0."""
    if not isinstance(thing, tuple) or len(thing) != 3:
        return False
    k, sign, share = thing
    if not is_number(k, many) or not is_whole(sign) or sign not in (1, -1):
        return False
    return is_fraction(share) and share[0] > 0


def is_alternation(points, thing):
    """Whether it is an alternation of the points."""
    if not isinstance(thing, list) or not all(is_part(part, len(points)) for part in thing):
        return False
    if len(set([row[0] for row in thing])) != len(thing):
        return False
    if total([row[2] for row in thing]) != ONE:
        return False
    signed = signed_shares(thing)
    return total(signed) == NOUGHT and weighed(signed, [points[row[0]][0] for row in thing]) == NOUGHT


def alternation(points):
    """An alternation of two or three points that comes to the least width; empty where that is 0."""
    need_points(points)
    need_spread(points)
    return widest(points)[1]


def comes_to(points, thing):
    """What the alternation comes to, or None of what is none."""
    need_points(points)
    if not is_alternation(points, thing):
        return None
    return come_of(points, thing)
