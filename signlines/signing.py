"""Signs of a line that is told, and of the best lines."""

from signlines.best import cheapest, need_priced
from signlines.fillings import free_ends, mixed_to
from signlines.orders import rising
from signlines.points import need_line, need_spread
from signlines.reckon import NOUGHT, added, is_less, lesser, negated, subtracted, total


def filled(ends, order):
    """Numbers between their ends that come to 0, in that order each as great as can be till 0 is come to."""
    found = [low for low, _ in ends]
    missing = negated(total(found))
    for k in order:
        low, high = ends[k]
        step = lesser(subtracted(high, low), missing)
        found[k] = added(low, step)
        missing = subtracted(missing, step)
    return found


def can_come_to_nought(ends):
    """Whether numbers between these ends can come to 0."""
    least = total([low for low, _ in ends])
    most = total([high for _, high in ends])
    return not is_less(NOUGHT, least) and not is_less(most, NOUGHT)


def signs_fitting(points, prices, line):
    """Signs that fit the line, all known to be such, or None."""
    ends = free_ends(points, prices, line)
    if not can_come_to_nought(ends):
        return None
    across = [point[0] for point in points]
    order = rising(across)
    # Of all that come to 0 the first filling has the least moment, the second one the greatest.
    return mixed_to(filled(ends, order), filled(ends, order[::-1]), across, NOUGHT)


def signs_of(points, prices, line):
    """Signs that fit the line, or None where it isn't best."""
    need_priced(points, prices)
    need_line(line)
    need_spread(points)
    return signs_fitting(points, prices, line)


def best_signs(points, prices):
    """Signs that fit the best lines."""
    need_priced(points, prices)
    need_spread(points)
    return signs_fitting(points, prices, cheapest(points, prices)[1][0])
