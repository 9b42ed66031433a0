"""What is none of a kind, though near it: each wrong thing at each place, first, between and last."""

from tests.helpers import pts, q, row

SIXTY = 10 ** 60

NO_FRACTIONS = [
    None, True, False, 0, 1, -3, "", "1", "1/2", b"1", [], [1, 2], (), (1,), (1, 2, 3), (1, 2, 1),
    (2, 4), (-2, 4), (0, 2), (0, -1), (3, 3), (1, 0), (0, 0), (1, -2), (-1, -2), (SIXTY, 2 * SIXTY), (1, -SIXTY),
    (True, 1), (False, 1), (1, True), (0, True), (True, True), (None, 1), (1, None), ("1", 1), (1, "2"), ("1", "2"),
    ((1, 1), 1), (1, (1, 1)), ((1, 2), (1, 2)), ([1], 1), [1, 1], {1: 2}, {1, 2}, range(1, 3), object(), int, [(1, 2)],
]

NOT_ABOVE_NOUGHT = [(0, 1), (-1, 1), (-1, 2), (-SIXTY, 7)]

# Of no kind at all, wherever something is asked for.
NOTHINGS = [None, True, False, 0, 7, "", "text", "1 2 3", b"12", {}, {1: 2}, set(), range(3), object(), list]

NO_NUMBERS = [None, True, False, -1, -2, -5, 10 ** 60, "0", "1", b"0", "", (0,), [0], [], {}, (0, 1), (1, 1), object()]


def with_part(whole, at, part):
    """The same list or tuple, with another part at one place."""
    parts = list(whole)
    parts[at] = part
    return parts if isinstance(whole, list) else tuple(parts)


def places(whole):
    return sorted({0, len(whole) // 2, len(whole) - 1})


def wrong_fractions():
    return list(NO_FRACTIONS)


def wrong_factors():
    return wrong_fractions() + [(0, 1)]


def wrong_whole_numbers():
    return [None, True, False, "1", "", b"1", (1,), (1, 2), [1], [], {}, q(1), object(), int]


def wrong_rows(right):
    """What is no tuple of so many fractions, as a line is."""
    found = list(NOTHINGS) + [(), list(right), [], right[:-1], right + (q(1),), (right,), [right], right + right]
    for at in range(len(right)):
        found += [with_part(right, at, part) for part in NO_FRACTIONS]
    return found


def wrong_lines():
    return wrong_rows(row("1/2", -3))


def wrong_prices():
    right = row("1/2", 3)
    found = wrong_rows(right)
    for at in (0, 1):
        found += [with_part(right, at, part) for part in NOT_ABOVE_NOUGHT]
    return found + [row(0, 0), row(-1, -1)]


def wrong_point():
    right = row(2, "-1/2", 3)
    return wrong_rows(right) + [with_part(right, 2, part) for part in NOT_ABOVE_NOUGHT]


def wrong_lists(right, wrong_part, most):
    """What is no list of one to so many things: a wrong one at each place of a right list."""
    found = list(NOTHINGS) + [[], (), tuple(right), right[0], [right], [list(one) for one in right]]
    found += [{k: one for k, one in enumerate(right)}, iter(right), (right,)]
    found.append((right * most)[:most + 1])
    found.append((right * most)[:most] + [right[0]] * 4)
    for at in places(right):
        found += [with_part(right, at, part) for part in wrong_part]
    found.append((right * most)[:most - 1] + [wrong_part[0]])
    return found


def wrong_points():
    return wrong_lists(pts((0, 0), (1, "1/2", 2), (3, -1, "1/3")), wrong_point(), 12)


def wrong_list_of_lines():
    return wrong_lists([row(0, 1), row(1, "1/2"), row(-2, 3)], wrong_lines(), 30)


def wrong_numbers_for(many):
    """What is no list of so many fractions."""
    right = [q(0)] * many
    found = list(NOTHINGS) + [[], (), tuple(right), q(1), [right], right[:-1], right + [q(0)], right + right]
    for at in places(right):
        found += [with_part(right, at, part) for part in NO_FRACTIONS]
    return found


def wrong_shares(many):
    """What is no list of so many shares."""
    even = [q(1, many)] * many
    first = [q(1)] + [q(0)] * (many - 1)
    found = wrong_numbers_for(many) + [tuple(even), even[:-1], first + [q(0)], even + [q(0)], first[:-1]]
    found += [[q(0)] * many, [q(1)] * many, [q(1, many + 1)] * many, [q(-1, many)] * many]
    for at in places(first):
        for other in places(first):
            if at != other:
                found.append(with_part(with_part([q(0)] * many, at, q(-1)), other, q(2)))
        found += [with_part(even, at, part) for part in NO_FRACTIONS + [q(0), q(1), q(2), q(-1, many)]]
    return found


def wrong_parts():
    """What is no fraction above 0 and below 1."""
    far = SIXTY - 1
    return wrong_fractions() + NOT_ABOVE_NOUGHT + [(1, 1), (-1, 1), (2, 1), (3, 2), (far + 1, far), (-1, far), (-3, 2)]


def wrong_planes():
    return wrong_rows(row("1/2", -3, 7))


def wrong_few_points():
    """What is no list of one to four points."""
    right = pts((0, 0), (1, "1/2", 2), (3, -1, "1/3"))
    many = pts(*[(k, k * k) for k in range(12)])
    return wrong_points() + wrong_lists(right, wrong_point(), 4) + [many[:5], many[:8], many]


def wrong_spot():
    right = row(2, "-1/2", 0, 3)
    return wrong_rows(right) + [with_part(right, 3, part) for part in NOT_ABOVE_NOUGHT]


def wrong_spots():
    """What is no list of one to eight spots."""
    right = [row(0, 0, 1, 1), row(1, "1/2", 0, 2), row(3, -1, 2, "1/3")]
    return wrong_lists(right, wrong_spot(), 8) + [pts((0, 0), (1, 1), (2, 0))]


# What nobody's fraction is written as; the last ones hold signs that are figures to Python, but not 0 to 9.
NO_TEXTS = [
    "", " ", "/", "-", "+", "-/", "/2", "1/", "-1/", "/-2", "+1", "+1/2", "++1", "--1", "-+1", "1-", "1/-2", "1/+2",
    "-1/-2", "01", "00", "-01", "007", "01/2", "1/02", "-0", "+0", "-0/1", "0/1", "0/2", "0/0", "1/0", "-1/0", "1/00",
    "1/1", "2/1", "-1/1", "12/1", "2/4", "4/2", "-2/4", "3/3", "10/5", "6/4", "1//2", "1/2/3", "1/2/", "/1/2",
    " 1", "1 ", "1 /2", "1/ 2", " 1/2", "1/2 ", "- 1", "-1/ 2", "\t1", "1\n", "\n1", "1/2\n", "1 2", "1\x002", "1\x00",
    "1_0", "1_000", "1/1_0", "1/2_3", "1.0", "1.5", ".5", "0.5", "1e3", "1E3", "0x1", "0b1", "0o7", "1:2", "1,5", "1;2",
    "1\\2", "a", "one", "1a", "a1", "1/a", "a/2", "1/2a", "None", "True", "(1, 2)", "[1]", "1j", "inf", "nan", "1%",
    "\u00b2", "\u0661", "\u0967", "\uff11", "\u2460", "1\u00b2", "1/\u0662", "\u0661/2", "-\u0661", "1\u0660", "\u00bd",
    "\u22121", "\u20131", "1\u22152", "1\u20442", "1/\u00b2", "\u00a01", "1\u00a0", "1/2\u2009", "\ufeff1", "\u0a66",
]


def wrong_texts():
    """What is no text of a fraction."""
    nothings = [one for one in NOTHINGS if not isinstance(one, str)]
    return nothings + NO_TEXTS + [q(1), q(-3, 2), [], (), ["1"], ("1",), ["1", "2"], b"1", b"-3/2", b"", {"1": 2}]


def wrong_numbers(many):
    """What is no number of so many points."""
    return NO_NUMBERS + [many, many + 1, 12, -many, 10 ** 30]


def wrong_bounds():
    """What are no bounds: wrong parts, and a low end above the high one."""
    right = row("-1/2", 3)
    found = [wrong for wrong in wrong_rows(right) if wrong not in ((None, right[1]), (right[0], None))]
    found += [(None,), (None, None, None), [None, None], (None, True), (False, None), (None, 1), (0, None), (None, "1")]
    found += [(None, (2, 4)), ((0, 2), None), ((None, None), (None, None)), "None", (None, [1, 2]), (None, ())]
    found += [row(3, "-1/2"), row("1/2", "1/3"), row("-1/3", "-1/2"), row(1, 0), row(0, "-1/7"), row("3/2", "4/3")]
    return found + [(q(1, SIXTY), q(0)), (q(1), q(SIXTY - 1, SIXTY)), (q(10 - SIXTY), q(9 - SIXTY))]


def wrong_value():
    right = row("-1/2", 3)
    return wrong_rows(right) + [with_part(right, 1, part) for part in NOT_ABOVE_NOUGHT]


def wrong_values():
    """What is no list of one to twenty-four values."""
    return wrong_lists([row(0, 1), row("1/2", 2), row(-1, "1/3")], wrong_value(), 24)


def wrong_directions():
    """What is no list of one to eight directions."""
    return wrong_lists([row(0, 1), row("1/2", 0), row(-1, "1/3")], wrong_rows(row(1, "-1/2")) + [row(0, 0)], 8)


def wrong_words():
    """Texts that may stand for no fraction in a row of words."""
    return NO_TEXTS + ["put", "none", "one", "X"]


def wrong_counts():
    """Texts that may stand for no point's number in a row of words."""
    return NO_TEXTS + ["-1", "-12", "+0", "1/2", "-1/2", "0/1", "000", "012", "take", "K"]


# Rows that a desk doesn't know; those in the middle have a blank or a line feed too many.
NO_ROWS = [
    "", "point", "Points", "POINTS", "put", "take", "move", "prices", "undo", "line", "none", "ok", "0", "1 2 3", "say",
    "put 1", "put 1 2", "put 1 2 3 4", "take 0 1", "take 0 1 2 3", "move 0", "move 0 1 2", "move 0 1 2 3 4", "move 1 2",
    "prices 1", "prices 1 2 3", "points 0", "best 1", "best best", "corners 0", "cost 1 1", "signs signs", "turns 1",
    "width 0", "points points", "put put 1 2", "Put 1 2 3", "TAKE 0", "Take 0", "move0 1 2 3", "put1 2 3", "best;", "p",
    " ", "  ", "\n", "\t", " points", "points ", "points  ", "\npoints", "points\n", "points\t", "\tpoints", "best ",
    " best",
    " put 1 2 3", "put 1 2 3 ", "put  1 2 3", "put 1  2 3", "put 1 2  3", "put 1 2 3\n", "put\n1 2 3", "put 1\n2 3",
    "put\t1 2 3", "put 1 2\t3", "take  0", "take 0 ", " take 0", "take 0\n", "take\n0", "take\t0", "move 0 1 2 3 ",
    "move  0 1 2 3", "move 0  1 2 3", "move 0 1 2 3\n", "prices 1 2 ", "prices  1 2", "prices 1  2", "prices 1 2\n",
    "signs ", "turns\n", " width", "cost ", "corners\n", "corners  ", "points\nbest", "points; best", "best\x00",
    "b est",
    "put 1, 2, 3", "put (1, 2, 3)", "put\u00a01 2 3", "put 1 2\u20093", "best\u00a0", "take\u00a00", "t\u0430ke 0",
    "prices 1;2",
    "put 1.5 2 3", "put 1 2 x", "take a", "take K", "move 0 1 2 1.5", "prices 1 one", "prices 1/1 2", "prices 1 2/4",
]


def wrong_desk_rows():
    """What is no row of a desk: no text, no known word, another count of words, no number where one belongs."""
    found = [one for one in NOTHINGS if not isinstance(one, str)] + NO_ROWS
    found += [b"points", b"put 1 2 3", ["points"], ("points",), ("put", "1", "2", "3"), ["put", 1, 2, 3], q(1), [], ()]
    for wrong in wrong_words():
        found += [f"put {wrong} 2 3", f"put 1 {wrong} 3", f"put 1 2 {wrong}", f"prices {wrong} 2", f"prices 1 {wrong}"]
        found += [f"move 0 {wrong} 2 3", f"move 0 1 {wrong} 3", f"move 0 1 2 {wrong}"]
    for wrong in wrong_counts():
        found += [f"take {wrong}", f"move {wrong} 1 2 3"]
    return found
