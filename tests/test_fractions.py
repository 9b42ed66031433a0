"""Point 4, but for the texts."""

import random
import unittest
from fractions import Fraction

from signlines.fractions import fraction, is_below, is_fraction, less, opposite, over, plus, times
from tests import samples, wrongs
from tests.helpers import Case, num, q


def numbers():
    chance = random.Random(4)
    found = [q(top, bottom) for top in range(-5, 6) for bottom in range(1, 5)]
    found += [samples.long_number(chance) for _ in range(12)]
    return found + [q(samples.SIXTY), q(-samples.SIXTY), q(1, samples.SIXTY), q(-1, samples.SIXTY)]


class Making(Case):

    def test_known_ones(self):
        for top, bottom, told in [
            (0, 1, (0, 1)), (0, 5, (0, 1)), (0, -5, (0, 1)), (1, 1, (1, 1)), (6, 4, (3, 2)), (-6, 4, (-3, 2)),
            (6, -4, (-3, 2)), (-6, -4, (3, 2)), (4, 2, (2, 1)), (3, 7, (3, 7)), (-1, -1, (1, 1)), (7, -7, (-1, 1)),
            (10 ** 59, 10 ** 58, (10, 1)), (10 ** 58, -10 ** 59, (-1, 10)),
        ]:
            self.assertEqual(self.asked(fraction, top, bottom), told)

    def test_any_two_whole_numbers_give_what_is_a_fraction(self):
        chance = random.Random(1)
        tops = list(range(-13, 14)) + [chance.randint(-samples.SIXTY, samples.SIXTY) for _ in range(20)]
        for top in tops:
            for bottom in tops:
                if bottom != 0:
                    told = self.asked(fraction, top, bottom)
                    self.assertEqual(told, q(Fraction(top, bottom)))
                    self.assertIs(is_fraction(told), True)

    def test_the_second_is_not_nought(self):
        for top in (0, 1, -1, 5, samples.SIXTY):
            self.refused("NoFraction", fraction, top, 0)

    def test_no_whole_numbers(self):
        for wrong in wrongs.wrong_whole_numbers():
            self.refused("NoFraction", fraction, wrong, 3)
            self.refused("NoFraction", fraction, 3, wrong)
            self.refused("NoFraction", fraction, wrong, wrong)
            self.refused("NoFraction", fraction, wrong, 0)


class Reckoning(Case):

    def test_known_ones(self):
        self.assertEqual(self.asked(plus, (1, 2), (1, 3)), (5, 6))
        self.assertEqual(self.asked(plus, (1, 2), (1, 2)), (1, 1))
        self.assertEqual(self.asked(plus, (1, 2), (-1, 2)), (0, 1))
        self.assertEqual(self.asked(less, (1, 2), (1, 3)), (1, 6))
        self.assertEqual(self.asked(less, (1, 3), (1, 2)), (-1, 6))
        self.assertEqual(self.asked(times, (2, 3), (3, 4)), (1, 2))
        self.assertEqual(self.asked(times, (-2, 3), (0, 1)), (0, 1))
        self.assertEqual(self.asked(over, (2, 3), (4, 3)), (1, 2))
        self.assertEqual(self.asked(over, (2, 3), (-4, 3)), (-1, 2))
        self.assertEqual(self.asked(over, (0, 1), (-4, 3)), (0, 1))
        self.assertEqual(self.asked(opposite, (3, 2)), (-3, 2))
        self.assertEqual(self.asked(opposite, (-3, 2)), (3, 2))
        self.assertEqual(self.asked(opposite, (0, 1)), (0, 1))

    def test_any_two(self):
        for one in numbers():
            self.assertEqual(opposite(one), q(-num(one)))
            for other in numbers():
                a, b = num(one), num(other)
                self.assertEqual(plus(one, other), q(a + b))
                self.assertEqual(less(one, other), q(a - b))
                self.assertEqual(times(one, other), q(a * b))
                self.assertIs(is_below(one, other), a < b)
                if b != 0:
                    self.assertEqual(over(one, other), q(a / b))

    def test_long_ones_are_told_and_handed_in_again(self):
        chance = random.Random(2)
        found, wanted = q(1), Fraction(1)
        for _ in range(20):
            one = samples.long_number(chance)
            found, wanted = times(plus(found, one), one), (wanted + num(one)) * num(one)
        self.assertEqual(found, q(wanted))
        self.assertIs(is_fraction(found), True)

    def test_nothing_is_divided_by_nought(self):
        for one in numbers():
            self.refused("NoFraction", over, one, (0, 1))

    def test_is_below(self):
        self.told_truth(True, is_below, (1, 3), (1, 2))
        self.told_truth(False, is_below, (1, 2), (1, 3))
        self.told_truth(False, is_below, (1, 2), (1, 2))
        self.told_truth(True, is_below, (-1, 2), (-1, 3))
        self.told_truth(True, is_below, (-5, 1), (0, 1))
        self.told_truth(False, is_below, (0, 1), (0, 1))
        self.told_truth(True, is_below, (2, 3), (5, 7))


class Telling(Case):

    def test_what_is_a_fraction(self):
        for one in numbers() + [(0, 1), (1, 1), (-1, 1), (1, 2), (-3, 2), (2, 1)]:
            self.told_truth(True, is_fraction, one)

    def test_what_is_none(self):
        for wrong in wrongs.wrong_fractions():
            self.told_truth(False, is_fraction, wrong)


if __name__ == "__main__":
    unittest.main()
