"""What the tests share: fractions by short names, refusals, and asking twice."""

import copy
import importlib
from fractions import Fraction
from unittest import TestCase

ERRORS = [
    "NoFraction", "NoText", "NoPoints", "NoPrices", "NoLine", "NoLines", "NoShares", "NoSpread", "NoNumber",
    "NoPlace", "NoBounds", "NoSpots", "NoPlane", "NoValues", "NoPair", "NoDirections", "NoDeed", "NoRow",
]


def q(top, bottom=1):
    """The fraction of a number, a text as "3/2", or a top and a bottom, as the program tells it."""
    number = Fraction(top) / Fraction(bottom)
    return (number.numerator, number.denominator)


def num(pair):
    """The number that a told fraction stands for."""
    return Fraction(pair[0], pair[1])


def row(*numbers):
    """A tuple of fractions: a point, a line, prices."""
    return tuple(q(number) for number in numbers)


def pts(*rows):
    """Points from rows of numbers; a row of two has the weight 1."""
    return [row(*(one if len(one) == 3 else one + (1,))) for one in rows]


def sps(*rows):
    """Spots from rows of numbers; a row of three has the weight 1."""
    return [row(*(one if len(one) == 4 else one + (1,))) for one in rows]


def qs(*numbers):
    return [q(number) for number in numbers]


def moved(signs, k, by):
    """The signs with one of them more by so much."""
    return signs[:k] + [q(num(signs[k]) + num(by))] + signs[k + 1:]


def error(name):
    return getattr(importlib.import_module("signlines.errors"), name)


def spoilt(told):
    """Changes a told list, and the lists within it, in every way that lists can be changed."""
    if isinstance(told, list):
        for part in told:
            spoilt(part)
        told.append("spoilt")
        told[0] = None
        told.reverse()


class Case(TestCase):

    def asked(self, ask, *args):
        """What is told; held against point 2: nothing handed in is changed, the same is told again."""
        handed = repr(args)
        told = ask(*args)
        kept = copy.deepcopy(told)
        self.assertEqual(repr(args), handed, f"{ask.__name__} changed what was handed in")
        spoilt(told)
        self.assertEqual(repr(args), handed, f"{ask.__name__} told what was handed in")
        self.assertEqual(repr(ask(*args)), repr(kept), f"{ask.__name__} told another thing when asked again")
        self.assertEqual(repr(ask(*copy.deepcopy(args))), repr(kept), f"{ask.__name__}, asked with alike things")
        return kept

    def told_truth(self, truth, ask, *args):
        self.assertIs(self.asked(ask, *args), truth, f"{ask.__name__} of {args!r}")

    def refused(self, name, ask, *args):
        """Refused with just this class, and nothing that was handed in is changed."""
        handed = repr(args)
        try:
            told = ask(*args)
        except Exception as caught:
            self.assertIsInstance(caught, error(name), f"{ask.__name__}{handed}")
            self.assertIsInstance(caught, error("LineError"))
            self.assertIsInstance(caught, ValueError)
            for other in ERRORS:
                if other != name:
                    self.assertNotIsInstance(caught, error(other))
        else:
            self.fail(f"{ask.__name__}{handed} told {told!r} instead of {name}")
        self.assertEqual(repr(args), handed, f"{ask.__name__} changed what it refused")


class Changing(Case):
    """What keeps points, followed by a plain list, self.points; put, take and move are the test's own."""

    def some_change(self, chance, point, others):
        """One change by chance, where it can be; of the others, the test's own methods, each without arguments."""
        many = len(self.points)
        deed = chance.choice(["put", "take", "move"] + others)
        if deed == "put" and many < 12:
            self.put(*point)
        elif deed == "take" and many > 0:
            self.take(chance.randrange(many))
        elif deed == "move" and many > 0:
            self.move(chance.randrange(many), *point)
        elif deed in others:
            getattr(self, deed)()
