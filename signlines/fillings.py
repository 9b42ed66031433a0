"""Numbers between ends, one for each point, that come to 0: fillings, and mixtures of them."""

from signlines.orders import rising
from signlines.reckon import NOUGHT, added, divided, is_less, lesser, multiplied, negated, subtracted, total, weighed


def filled(ends, order):
    """Numbers between their ends that come to 0, in that order each as great as can be till 0 is come to."""
    found = [low for low, _ in ends]
    missing = negated(total(found))
    for k in order:
        low, high = ends[k]
        step = lesser(subtracted(high, low), missing)
        found[k] = added(low, step)
        missing = subtracted(missing, step)
    return found


def both_filled(points, ends):
    """(ones, others): of all between the ends that come to 0, those of the least and of the greatest moment."""
    order = rising([point[0] for point in points])
    return (filled(ends, order), filled(ends, order[::-1]))


def mixed_to(ones, others, numbers, wanted):
    """A mixture of two lists that comes, times the numbers, to what is wanted, or None.

    The ones, times the numbers, come to no more than the others.
    """
    least = weighed(ones, numbers)
    most = weighed(others, numbers)
    if is_less(wanted, least) or is_less(most, wanted):
        return None
    if least == most:
        return list(ones)
    part = divided(subtracted(wanted, least), subtracted(most, least))
    return [added(one, multiplied(part, subtracted(other, one))) for one, other in zip(ones, others)]


def filling_steps(ends, numbers, order):
    """A list of (total, moment): from all as small as can be on, one by one, in that order, as great as can be."""
    lows = [low for low, _ in ends]
    whole = total(lows)
    moment = weighed(lows, numbers)
    found = [(whole, moment)]
    for k in order:
        low, high = ends[k]
        step = subtracted(high, low)
        whole = added(whole, step)
        moment = added(moment, multiplied(step, numbers[k]))
        found.append((whole, moment))
    return found


def totals_along(steps):
    """The totals at which the moment, going straight from step to step, comes to 0, or begins or ends to be 0."""
    found = []
    for (here, ahead), (there, behind) in zip(steps, steps[1:]):
        if ahead == behind:
            if ahead == NOUGHT:
                found += [here, there]
        elif ahead[0] <= 0 <= behind[0] or behind[0] <= 0 <= ahead[0]:
            part = divided(ahead, subtracted(ahead, behind))
            found.append(added(here, multiplied(part, subtracted(there, here))))
    return found


def totals_at_no_moment(ends, numbers):
    """Some totals, the least and the greatest one among them, of what comes to 0 times the numbers."""
    # The fillings by rising and by falling numbers go round all totals and moments that there are.
    order = rising(numbers)
    steps = filling_steps(ends, numbers, order)
    return totals_along(steps) + totals_along(filling_steps(ends, numbers, order[::-1]))


def can_come_to_nought(ends):
    """Whether numbers between these ends can come to 0."""
    least = total([low for low, _ in ends])
    most = total([high for _, high in ends])
    return not is_less(NOUGHT, least) and not is_less(most, NOUGHT)


def balanced_between(points, ends):
    """Balanced numbers between their ends, or None where there are none."""
    if not can_come_to_nought(ends):
        return None
    ones, others = both_filled(points, ends)
    return mixed_to(ones, others, [point[0] for point in points], NOUGHT)
