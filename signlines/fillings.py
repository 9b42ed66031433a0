"""Signs between ends: at the points off a line they are fixed, at those on it they are free."""

from signlines.lines import rise_of
from signlines.reckon import added, divided, is_less, multiplied, subtracted, weighed
from signlines.signs import ends_at


def free_ends(points, prices, line):
    """A list of (low, high): between these lies each point's sign in signs that fit the line."""
    found = []
    for point in points:
        low, high = ends_at(point, prices)
        rise = rise_of(point, line)
        if rise[0] > 0:
            low = high
        elif rise[0] < 0:
            high = low
        found.append((low, high))
    return found


def mixed_to(ones, others, numbers, wanted):
    """A mixture of two lists that comes, times the numbers, to what is wanted, or None.

    The ones, times the numbers, come to no more than the others.
    """
    least = weighed(ones, numbers)
    most = weighed(others, numbers)
    if is_less(wanted, least) or is_less(most, wanted):
        return None
    if least == most:
        return list(ones)
    part = divided(subtracted(wanted, least), subtracted(most, least))
    return [added(one, multiplied(part, subtracted(other, one))) for one, other in zip(ones, others)]
