"""Fractions as texts: the top, and, where the bottom isn't 1, a stroke and the bottom."""

from signlines.errors import NoText
from signlines.fractions import need_fraction
from signlines.reckon import made

FIGURES = "0123456789"
# Python itself refuses to turn very long numbers into texts and back; blocks of this many figures it does not.
BLOCK = 60


def figures_of(number):
    """The figures of a whole number from 0 on."""
    blocks = []
    while number >= 10 ** 60:
        number, block = divmod(number, 10 ** 60)
        blocks.append(str(block).zfill(BLOCK))
    blocks.append(str(number))
    return "".join(reversed(blocks))


def number_of(figures):
    """The whole number of a text of figures alone, one or more."""
    first = len(figures) % BLOCK
    number = int("0" + figures[:first])
    for at in range(first, len(figures), BLOCK):
        number = number * 10 ** 60 + int(figures[at:at + BLOCK])
    return number


def are_figures(text):
    return len(text) > 0 and all(sign in FIGURES for sign in text)


def text_of(one):
    """The text of a fraction that is known to be one."""
    top, bottom = one
    text = figures_of(abs(top))
    if top < 0:
        text = "-" + text
    if bottom != 1:
        text = text + "/" + figures_of(bottom)
    return text


def in_any_terms(text):
    """The fraction that a text tells, in whatever terms and with noughts ahead, or None."""
    above, stroke, beneath = text.partition("/")
    if stroke == "":
        beneath = "1"
    plain = above.removeprefix("-")
    if not are_figures(plain) or not are_figures(beneath):
        return None
    top = number_of(plain)
    bottom = number_of(beneath)
    if bottom == 0:
        return None
    return made(-top if plain != above else top, bottom)


def number_in(text):
    """The number that is written so, in figures without noughts ahead, or None."""
    if not are_figures(text) or len(text) > 1 and text[0] == "0":
        return None
    return number_of(text)


def fraction_in(text):
    """The fraction that is written so, and in no other way, or None."""
    found = in_any_terms(text)
    if found is None or text_of(found) != text:
        return None
    return found


def show_fraction(one):
    """The fraction as a text."""
    need_fraction(one)
    return text_of(one)


def read_fraction(text):
    """The fraction that is written so, and in no other way."""
    found = fraction_in(text) if isinstance(text, str) else None
    if found is None:
        raise NoText("a fraction is written as its top and, where the bottom isn't 1, a stroke and the bottom")
    return found
