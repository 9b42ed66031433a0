"""The interface: each function, what it is handed, how it refuses."""

import importlib

from tests import wrongs
from tests.helpers import pts, q, row

POINTS = pts((0, 0), (1, "1/2", 2), (3, -1, "1/3"))
COLUMN = pts((2, 0), (2, 1, 3), (2, "-1/2"))
# What is handed in is not spread: points of one x, spots on one straight line.
NOT_SPREAD = {
    "points": [COLUMN, pts((1, 1)), pts((0, 0), (0, 0)), pts((3, 1), (3, 2)) * 6],
    "spots": [
        [row(0, 0, 1, 1)], [row(0, 0, 1, 1), row(1, 5, 2, 1)], [row(k, 3 - 2 * k, k * k, 1) for k in range(8)],
        [row(2, k, -k, 1) for k in range(5)], [row(k % 2, 1, k, 2) for k in range(6)],
    ],
}
SPOTS = [row(0, 0, 1, 1), row(1, "1/2", 0, 2), row(3, -1, 2, "1/3"), row(1, 1, 1, 1)]

# A kind of argument: what is right, all that is wrong, and the refusal of it.
KINDS = {
    "points": (POINTS, wrongs.wrong_points, "NoPoints"),
    "point": (row(1, 2, 3), wrongs.wrong_point, "NoPoints"),
    "other point": (row(3, 2, 1), wrongs.wrong_point, "NoPoints"),
    "prices": (row(1, 2), wrongs.wrong_prices, "NoPrices"),
    "line": (row("1/2", -3), wrongs.wrong_lines, "NoLine"),
    "fraction": (q(2, 3), wrongs.wrong_fractions, "NoFraction"),
    "factor": (q(-2, 3), wrongs.wrong_factors, "NoFraction"),
    "whole": (6, wrongs.wrong_whole_numbers, "NoFraction"),
    "divisor": (4, lambda: wrongs.wrong_whole_numbers() + [0], "NoFraction"),
    "lines": ([row(0, 1), row(1, 1), row(2, "1/2")], wrongs.wrong_list_of_lines, "NoLines"),
    "shares": ([q(1, 2), q(0), q(1, 2)], lambda: wrongs.wrong_shares(3), "NoShares"),
    "numbers": ([q(5), q(0), q(-1, 2)], lambda: wrongs.wrong_numbers_for(3), "NoShares"),
    "part": (q(2, 5), wrongs.wrong_parts, "NoFraction"),
    "place": (row("1/2", -3), wrongs.wrong_lines, "NoPlace"),
    "spots": (SPOTS, wrongs.wrong_spots, "NoSpots"),
    "any spots": (SPOTS, lambda: [], None),
    "plane": (row(1, "-1/2", 3), wrongs.wrong_planes, "NoPlane"),
    "few points": (POINTS, wrongs.wrong_few_points, "NoPoints"),
    "one fraction": (q(-1, 2), wrongs.wrong_fractions, "NoFraction"),
    "other fraction": (q(3), lambda: wrongs.wrong_fractions() + [q(-1, 2)], "NoFraction"),
    "text": ("-3/2", wrongs.wrong_texts, "NoText"),
    "pair line": (row(0, "1/2"), wrongs.wrong_lines, "NoLine"),
    "point's number": (1, lambda: wrongs.wrong_numbers(3), "NoNumber"),
    "bounds": ((None, q(1, 2)), wrongs.wrong_bounds, "NoBounds"),
    "values": ([row(0, 1), row("1/2", 2), row(-1, "1/3")], wrongs.wrong_values, "NoValues"),
    "directions": ([row(0, 1), row("1/2", 0), row(-1, "1/3")], wrongs.wrong_directions, "NoDirections"),
    "thing": (None, lambda: [], None),
    "number": (q(1, 2), lambda: [], None),
}

# Each function's module, its arguments' kinds in the order of the interface, and whether the first is to be spread.
FUNCTIONS = {
    "fraction": ("fractions", ["whole", "divisor"], False),
    "plus": ("fractions", ["number", "number"], False),
    "less": ("fractions", ["number", "number"], False),
    "times": ("fractions", ["number", "number"], False),
    "over": ("fractions", ["number", "number"], False),
    "opposite": ("fractions", ["number"], False),
    "is_below": ("fractions", ["number", "number"], False),
    "is_fraction": ("fractions", ["thing"], False),
    "is_points": ("points", ["thing"], False),
    "is_prices": ("points", ["thing"], False),
    "is_line": ("points", ["thing"], False),
    "is_spread": ("points", ["points"], False),
    "tilted": ("points", ["points", "line"], False),
    "stretched": ("points", ["points", "factor", "factor"], False),
    "stands": ("lines", ["line", "fraction"], False),
    "rises": ("lines", ["points", "line"], False),
    "sides": ("lines", ["points", "line"], False),
    "cost": ("lines", ["points", "prices", "line"], False),
    "mixed": ("lines", ["lines", "shares"], False),
    "tilted_line": ("lines", ["line", "line"], False),
    "stretched_line": ("lines", ["line", "factor", "factor"], False),
    "through": ("pairs", ["point", "other point"], False),
    "pair_lines": ("pairs", ["points"], True),
    "least_cost": ("best", ["points", "prices"], True),
    "best_line": ("best", ["points", "prices"], True),
    "is_best": ("best", ["points", "prices", "thing"], True),
    "are_signs": ("signs", ["points", "prices", "thing"], False),
    "is_balanced": ("signs", ["points", "thing"], False),
    "fit": ("signs", ["points", "prices", "line", "thing"], False),
    "worth": ("signs", ["points", "numbers"], False),
    "corners": ("corners", ["points", "prices"], True),
    "kind": ("corners", ["points", "prices"], True),
    "slopes": ("corners", ["points", "prices"], True),
    "heights": ("corners", ["points", "prices", "fraction"], True),
    "shares_of": ("mixing", ["lines", "line"], False),
    "range_of": ("ranges", ["points", "prices", "point's number"], True),
    "held": ("ranges", ["points", "prices"], True),
    "strict_signs": ("ranges", ["points", "prices"], True),
    "sums": ("sums", ["points", "line"], False),
    "span": ("sums", ["points", "line"], True),
    "turns": ("turning", ["points"], True),
    "between": ("turning", ["points"], True),
    "corners_at": ("turning", ["points", "part"], True),
    "pinned_slopes": ("pinned", ["points", "prices", "place"], False),
    "pinned_signs": ("pinned", ["points", "prices", "place"], False),
    "pinned_fit": ("pinned", ["points", "prices", "place", "fraction", "thing"], False),
    "bound_corners": ("bounded", ["points", "prices", "bounds"], True),
    "bound_signs": ("bounded", ["points", "prices", "bounds"], True),
    "bound_fit": ("bounded", ["points", "prices", "bounds", "line", "thing"], False),
    "slope_cost": ("profiles", ["points", "prices", "fraction"], False),
    "profile": ("profiles", ["points", "prices"], True),
    "is_spots": ("spots", ["thing"], False),
    "is_plane": ("spots", ["thing"], False),
    "is_wide": ("spots", ["any spots"], False),
    "laid_twice": ("spots", ["few points", "one fraction", "other fraction"], False),
    "spot_rises": ("spots", ["spots", "plane"], False),
    "plane_cost": ("spots", ["spots", "prices", "plane"], False),
    "plane_corners": ("planes", ["spots", "prices"], True),
    "least_plane_cost": ("planes", ["spots", "prices"], True),
    "spot_signs": ("spotsigns", ["spots", "prices"], True),
    "spot_fit": ("spotsigns", ["spots", "prices", "plane", "thing"], False),
    "alternation": ("alternation", ["points"], True),
    "comes_to": ("alternation", ["points", "thing"], False),
    "is_values": ("rows", ["thing"], False),
    "middles": ("rows", ["values", "prices"], False),
    "midway": ("rows", ["values"], False),
    "nearest_stripe": ("directions", ["points", "directions"], False),
    "show_fraction": ("texts", ["fraction"], False),
    "read_fraction": ("texts", ["text"], False),
    "signs_of": ("signing", ["points", "prices", "line"], True),
    "best_signs": ("signing", ["points", "prices"], True),
    "width": ("widths", ["points", "line"], False),
    "least_width": ("widths", ["points"], True),
    "narrowest": ("widths", ["points"], True),
    "road": ("roads", ["points", "prices", "pair line"], True),
    "is_road": ("roads", ["points", "prices", "thing"], False),
}


def told_by(name):
    """The function of that name, from the module that the interface names."""
    return getattr(importlib.import_module("signlines." + FUNCTIONS[name][0]), name)


def right_things(name):
    return [KINDS[kind][0] for kind in FUNCTIONS[name][1]]


def wrong_things(kind):
    return KINDS[kind][1]()


def refusal(kind):
    return KINDS[kind][2]
