"""Fractions, and rows of them (lines, planes), in their order as numbers, and what costs least."""

from signlines.reckon import ends, is_less


def goes_ahead(one, other):
    """Whether the first row goes ahead: by the first number that is unlike."""
    for mine, yours in zip(one, other):
        if mine != yours:
            return is_less(mine, yours)
    return False


def place_of(rows, row):
    """How many of the sorted rows go ahead of this one."""
    low = 0
    high = len(rows)
    while low < high:
        middle = (low + high) // 2
        if goes_ahead(rows[middle], row):
            low = middle + 1
        else:
            high = middle
    return low


def sorted_once(rows):
    """A new list of the rows, sorted, alike ones only once."""
    # Python's own order of tuples would compare tops and bottoms, not numbers.
    found = []
    for row in rows:
        at = place_of(found, row)
        if at == len(found) or found[at] != row:
            found.insert(at, row)
    return found


def rising(numbers):
    """Their places in the list, from 0, in an order in which the numbers rise."""
    found = []
    for k, number in enumerate(numbers):
        at = len(found)
        while at > 0 and is_less(number, numbers[found[at - 1]]):
            at -= 1
        found.insert(at, k)
    return found


def cheapest_of(rows):
    """Of a list of (cost, thing), one or more: the least cost, and the things that come to it, in their order."""
    least = ends([cost for cost, _ in rows])[0]
    return (least, [thing for cost, thing in rows if cost == least])
