"""Prices that move: the turns at which best lines change, and the best lines between them."""

from signlines.best import cheapest
from signlines.errors import NoFraction
from signlines.fractions import is_fraction
from signlines.lines import sums_of
from signlines.orders import goes_ahead
from signlines.pairs import pair_lines_of
from signlines.points import need_points, need_spread
from signlines.reckon import ONE, added, divided, is_less, subtracted


def need_part(thing):
    """Refuses what is no fraction above 0 and below 1."""
    if not is_fraction(thing) or not 0 < thing[0] < thing[1]:
        raise NoFraction("a fraction above 0 and below 1 belongs here")


def meeting(own, other):
    """The t at which both sums cost alike, where the other ones have less over and more under."""
    lost = subtracted(own[0], other[0])
    won = subtracted(other[1], own[1])
    return divided(won, added(lost, won))


def first_sums(rows):
    """The sums that cost least at each t near 0: of least under, and of these the one of least over."""
    over, under = rows[0][0]
    for (other_over, other_under), _ in rows:
        if goes_ahead((other_under, other_over), (under, over)):
            over, under = other_over, other_under
    return (over, under)


def next_turn(rows, own):
    """(t, sums): the turn behind the stretch of own sums, and the sums of the next one, or None."""
    found = None
    for other, _ in rows:
        if is_less(other[0], own[0]):
            t = meeting(own, other)
            # Of all that meet there, the one of least over costs least a little behind it.
            if found is None or goes_ahead((t, other[0]), (found[0], found[1][0])):
                found = (t, other)
    return found


def stretches(points):
    """(turns, lots): the turns, and the sorted corners ahead of, between and behind them."""
    rows = [(sums_of(points, line), line) for line in pair_lines_of(points)]
    own = first_sums(rows)
    found = []
    lots = [[line for other, line in rows if other == own]]
    turn = next_turn(rows, own)
    while turn is not None:
        t, own = turn
        found.append(t)
        lots.append([line for other, line in rows if other == own])
        turn = next_turn(rows, own)
    return (found, lots)


def turns(points):
    """The t, rising, at which lines are best that aren't so a little ahead, or a little behind."""
    need_points(points)
    need_spread(points)
    return stretches(points)[0]


def between(points):
    """A list of lists: the corners ahead of the first turn, between each two, behind the last one."""
    need_points(points)
    need_spread(points)
    return stretches(points)[1]


def corners_at(points, t):
    """The corners at the prices (t, 1 less t), sorted."""
    need_points(points)
    need_part(t)
    need_spread(points)
    return cheapest(points, (t, subtracted(ONE, t)))[1]
