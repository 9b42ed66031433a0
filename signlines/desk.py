"""Desks: rows of text that change points and prices, or ask of them, and their answers."""

from signlines.best import best_line, least_cost
from signlines.corners import corners
from signlines.errors import NoRow
from signlines.kept import with_one_more, with_other, without
from signlines.points import need_prices
from signlines.reckon import ONE
from signlines.signing import best_signs
from signlines.texts import fraction_in, number_in, text_of
from signlines.turning import turns
from signlines.widths import least_width

# What stands behind the word of a row: k for a point's number, f for a fraction.
SHAPES = {
    "put": "fff", "take": "k", "move": "kfff", "prices": "ff",
    "points": "", "best": "", "corners": "", "cost": "", "signs": "", "turns": "", "width": "",
}


def row_text(numbers):
    """Fractions as texts, a blank between them."""
    return " ".join([text_of(number) for number in numbers])


def rows_text(rows):
    """Rows of fractions as texts, a semicolon and a blank between them."""
    return "; ".join([row_text(row) for row in rows])


def points_text(points, prices):
    return "none" if len(points) == 0 else rows_text(points)


def best_text(points, prices):
    return row_text(best_line(points, prices))


def corners_text(points, prices):
    return rows_text(corners(points, prices))


def cost_text(points, prices):
    return text_of(least_cost(points, prices))


def signs_text(points, prices):
    return row_text(best_signs(points, prices))


def turns_text(points, prices):
    found = turns(points)
    return "none" if len(found) == 0 else row_text(found)


def width_text(points, prices):
    return text_of(least_width(points))


ANSWERS = {
    "points": points_text, "best": best_text, "corners": corners_text, "cost": cost_text, "signs": signs_text,
    "turns": turns_text, "width": width_text,
}


def told_in(row):
    """(word, told): the first word of a row, and the numbers behind it."""
    if not isinstance(row, str):
        raise NoRow("a row is a text")
    word, *parts = row.split(" ")
    if word not in SHAPES or len(parts) != len(SHAPES[word]):
        raise NoRow("a row is one of the known words with as many numbers as belong to it, one blank between")
    told = []
    for letter, part in zip(SHAPES[word], parts):
        number = number_in(part) if letter == "k" else fraction_in(part)
        if number is None:
            raise NoRow("a point's number is written in figures, all other numbers as fractions are")
        told.append(number)
    return (word, told)


class Desk:
    """Points, none at first, and prices, (1, 1) at first."""

    def __init__(self):
        self._points = []
        self._prices = (ONE, ONE)

    def say(self, row):
        """The answer to a row, a text; a row that is refused changes nothing."""
        word, told = told_in(row)
        if word in ANSWERS:
            answer = ANSWERS[word]
            return answer(self._points, self._prices)
        if word == "put":
            self._points = with_one_more(self._points, *told)
        elif word == "take":
            self._points = without(self._points, *told)
        elif word == "move":
            self._points = with_other(self._points, *told)
        else:
            prices = (told[0], told[1])
            need_prices(prices)
            self._prices = prices
        return "ok"
