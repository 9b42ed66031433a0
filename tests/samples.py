"""Points, prices and lines to try the program with: the same ones in each run."""

import random
from fractions import Fraction

from tests.helpers import q

SIXTY = 10 ** 60 - 1


def whole(chance, far):
    return q(chance.randint(-far, far))


def small(chance):
    return q(chance.randint(-6, 6), chance.randint(1, 4))


def long_number(chance):
    """Of up to sixty figures above, and below the stroke."""
    return q(chance.randint(-SIXTY, SIXTY), chance.randint(1, SIXTY))


def weight(chance):
    return q(chance.randint(1, 5), chance.randint(1, 3))


def long_weight(chance):
    return q(chance.randint(1, SIXTY), chance.randint(1, SIXTY))


def grid(chance, many):
    return [(whole(chance, 2), whole(chance, 2), q(1)) for _ in range(many)]


def fractions(chance, many):
    return [(small(chance), small(chance), weight(chance)) for _ in range(many)]


def mostly_on_a_line(chance, many):
    points = [(q(k), q(2 * k - 3), weight(chance)) for k in range(many)]
    points[chance.randrange(many)] = (small(chance), small(chance), weight(chance))
    return points


def mostly_in_a_column(chance, many):
    points = [(q(1, 2), small(chance), weight(chance)) for k in range(many)]
    points[chance.randrange(many)] = (q(chance.randint(1, 3)), small(chance), weight(chance))
    return points


def alike(chance, many):
    some = [(whole(chance, 2), small(chance), weight(chance)) for _ in range(2)]
    return [some[k % 2] for k in range(many)]


def long_ones(chance, many):
    return [(long_number(chance), long_number(chance), long_weight(chance)) for _ in range(many)]


MAKERS = [grid, fractions, mostly_on_a_line, mostly_in_a_column, alike]


def is_spread(points):
    return len({x for x, y, w in points}) > 1


def spread_ones(seed, each, counts):
    """Spread points of every make, so many of each make and count."""
    chance = random.Random(seed)
    found = []
    for make in MAKERS:
        for many in counts:
            for _ in range(each):
                points = make(chance, many)
                while not is_spread(points):
                    points = make(chance, many)
                found.append(points)
    return found


def long_spread(seed, counts):
    chance = random.Random(seed)
    return [long_ones(chance, many) for many in counts]


def all_prices(chance):
    return [
        (q(1), q(1)), (q(1), q(2)), (q(3), q(1)), (q(1, 2), q(1, 3)),
        (q(chance.randint(1, 9), chance.randint(1, 9)), q(chance.randint(1, 9), chance.randint(1, 9))),
    ]


def some_prices(chance):
    return chance.choice(all_prices(chance))


def long_prices(chance):
    return (long_weight(chance), long_weight(chance))


def priced(seed, each=3, counts=(2, 3, 4, 7, 12)):
    """Spread points of every make, and a few long ones, with prices."""
    chance = random.Random(seed)
    found = [(points, some_prices(chance)) for points in spread_ones(seed + 1, each, counts)]
    return found + [(points, long_prices(chance)) for points in long_spread(seed + 2, [2, 3, 4])]


def small_line(chance):
    return (small(chance), small(chance))


def long_line(chance):
    return (long_number(chance), long_number(chance))


def shares(chance, many):
    """So many fractions from 0 on that come to 1, some of them 0."""
    parts = [chance.choice([0, 1, 1, 2, 5]) for _ in range(many)]
    parts[chance.randrange(many)] += 1
    return [q(Fraction(part, sum(parts))) for part in parts]


THIRTY = 10 ** 30 - 1


def places(chance, points):
    """Places for pinned lines: a point's own, above one, between them, far from all."""
    x, y, w = chance.choice(points)
    return [(x, y), (x, small(chance)), (small(chance), small(chance)), (q(100), small(chance)), (q(-50), y)]


def long_place(chance):
    return (long_number(chance), long_number(chance))


def bounds(chance, points):
    """Bounds of slopes: none, one alone, both, alike ones, narrow ones, the slopes of pair lines."""
    slopes = sorted(Fraction(*line_slope) for line_slope in slopes_of(points))
    some = chance.choice(slopes) if slopes else Fraction(1, 2)
    low, high = sorted([Fraction(*small(chance)), Fraction(*small(chance))])
    narrow = Fraction(1, 10 ** 9)
    return [
        (None, None), (None, q(low)), (q(high), None), (q(low), q(high)), (q(low), q(low)), (q(some), q(some)),
        (q(some), None), (None, q(some)), (q(some - 1), q(some)), (q(some + narrow), q(some + 2 * narrow)),
        (q(high + 50), q(high + 51)), (q(low - 51), q(low - 50)), (q(-100), q(100)),
    ]


def slopes_of(points):
    """The slopes of lines through two points of unlike x."""
    rows = [(Fraction(*x), Fraction(*y)) for x, y, w in points]
    return [q((b - y) / (a - x)) for x, y in rows for a, b in rows if x < a]


def long_bounds(chance):
    low, high = sorted([Fraction(*long_number(chance)), Fraction(*long_number(chance))])
    return [(q(low), q(high)), (None, q(low)), (q(high), None), (q(low), q(low)), (None, None)]


def thirty(chance):
    """Of up to thirty figures above, and below the stroke."""
    return q(chance.randint(-THIRTY, THIRTY), chance.randint(1, THIRTY))


def thirty_weight(chance):
    return q(chance.randint(1, THIRTY), chance.randint(1, THIRTY))


def spots(chance, many):
    return [(small(chance), small(chance), small(chance), weight(chance)) for _ in range(many)]


def spots_on_a_grid(chance, many):
    return [(whole(chance, 1), whole(chance, 1), whole(chance, 2), q(1)) for _ in range(many)]


def long_spots(chance, many):
    return [(thirty(chance), thirty(chance), thirty(chance), q(abs(thirty(chance)[0]) + 1, 7)) for _ in range(many)]


def all_spots(seed, each=2):
    chance = random.Random(seed)
    found = [make(chance, many) for make in (spots, spots_on_a_grid) for many in range(1, 9) for _ in range(each)]
    return found + [long_spots(chance, many) for many in (1, 3, 8)]


def plane(chance):
    return (small(chance), small(chance), small(chance))
