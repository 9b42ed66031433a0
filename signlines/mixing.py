"""Mixtures: shares by which a line is mixed of others."""

from itertools import combinations

from signlines.lines import need_lines
from signlines.points import need_line
from signlines.reckon import NOUGHT, ONE, crossed, divided, negated, subtracted, total


def parts_of_two(one, other):
    """Shares of two unlike pairs that mix them to (0, 0), or None."""
    if crossed(one, other) != NOUGHT:
        return None
    # On one straight line with (0, 0): each place at which they are unlike tells the same part.
    at = 0 if one[0] != other[0] else 1
    part = divided(other[at], subtracted(other[at], one[at]))
    rest = subtracted(ONE, part)
    if part[0] < 0 or rest[0] < 0:
        return None
    return [part, rest]


def parts_of_three(one, other, third):
    """Shares of three pairs, not all on one straight line, that mix them to (0, 0), or None."""
    parts = [crossed(other, third), crossed(third, one), crossed(one, other)]
    if total(parts)[0] < 0:
        parts = [negated(part) for part in parts]
    whole = total(parts)
    if whole == NOUGHT or any(part[0] < 0 for part in parts):
        return None
    return [divided(part, whole) for part in parts]


def spread_out(many, places, parts):
    """A list of so many: the parts at their places, 0 at all others."""
    found = [NOUGHT] * many
    for at, part in zip(places, parts):
        found[at] = part
    return found


def mixing_parts(away):
    """(places, parts): shares of a few of the pairs that mix them to (0, 0), or None."""
    for k, one in enumerate(away):
        if one == (NOUGHT, NOUGHT):
            return ([k], [ONE])
    # What is mixed of many is mixed of the first one and one or two more: those at the far side,
    # where the straight line from the first one through the mixture comes out.
    for k in range(1, len(away)):
        if away[k] != away[0]:
            parts = parts_of_two(away[0], away[k])
            if parts is not None:
                return ([0, k], parts)
    for k, n in combinations(range(1, len(away)), 2):
        parts = parts_of_three(away[0], away[k], away[n])
        if parts is not None:
            return ([0, k, n], parts)
    return None


def shares_of(lines, line):
    """Shares by which the line is mixed of the lines, or None where there are none."""
    need_lines(lines)
    need_line(line)
    away = [(subtracted(height, line[0]), subtracted(slope, line[1])) for height, slope in lines]
    found = mixing_parts(away)
    if found is None:
        return None
    return spread_out(len(lines), found[0], found[1])
