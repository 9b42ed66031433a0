"""Points 3 and 20: greatest distances from lines, and the narrowest lines."""

import copy
import random
import unittest
from fractions import Fraction

from signlines.alternation import alternation, comes_to
from signlines.lines import mixed, stretched_line, tilted_line
from signlines.pairs import pair_lines
from signlines.points import stretched, tilted
from signlines.widths import least_width, narrowest, width
from tests import model, model_widths, samples, wrongs
from tests.helpers import Case, num, pts, q, row, spoilt

LITTLE = Fraction(1, 10 ** 40)


def all_points(seed, each, counts):
    return samples.spread_ones(seed, each, counts) + samples.long_spread(seed + 1, [2, 3, 5])


class Width(Case):

    def test_known_ones(self):
        points = pts((0, 1), (1, -2, 3), (2, 0, 5))
        self.assertEqual(self.asked(width, points, row(0, 0)), q(6))
        self.assertEqual(self.asked(width, points, row(1, 0)), q(9))
        self.assertEqual(self.asked(width, points, row(-3, 0)), q(15))
        self.assertEqual(self.asked(width, points, row(10, 0)), q(50))
        self.assertEqual(self.asked(width, points, row(0, 1)), q(10))
        self.assertEqual(self.asked(width, points, row(1, "-3/2")), q(10))
        self.assertEqual(self.asked(width, pts((0, 1, "1/3"), (2, 7)), row("1/2", 0)), q(13, 2))

    def test_above_and_beneath_alike(self):
        for points in (pts((0, 5), (1, -2)), pts((0, -5), (1, 2)), pts((1, 2), (0, -5)), pts((1, -2), (0, 5))):
            self.assertEqual(self.asked(width, points, row(0, 0)), q(5))

    def test_the_weight_times_the_distance_and_not_the_farthest(self):
        self.assertEqual(self.asked(width, pts((0, 10, "1/10"), (1, 2)), row(0, 0)), q(2))
        self.assertEqual(self.asked(width, pts((0, 1, 50), (1, 2)), row(0, 0)), q(50))

    def test_points_of_one_x_and_one_point(self):
        self.assertEqual(self.asked(width, pts((3, 4, 5)), row(1, 2)), q(15))
        self.assertEqual(self.asked(width, pts((3, 4, 5)), row(4, 0)), q(0))
        self.assertEqual(self.asked(width, pts((3, 4), (3, 7), (3, 5)), row(5, 0)), q(2))

    def test_nought_just_where_all_points_are_on_the_line(self):
        points = pts((0, 1), (2, 5), (5, 11, 7))
        self.assertEqual(self.asked(width, points, row(1, 2)), q(0))
        self.assertEqual(self.asked(width, points[:2] + [row(5, "111/10", 7)], row(1, 2)), q(7, 10))

    def test_any(self):
        chance = random.Random(2001)
        for points in all_points(2002, 2, [2, 5, 12]) + [samples.long_ones(chance, 1)]:
            for line in [samples.small_line(chance), samples.long_line(chance)] + model.pair_lines(points)[:3]:
                self.assertEqual(self.asked(width, points, line), q(model_widths.width(points, line)))

    def test_no_line(self):
        for wrong in wrongs.wrong_lines():
            self.refused("NoLine", width, pts((0, 0), (0, 1)), wrong)
            self.refused("NoPoints", width, [], wrong)


class Narrowest(Case):

    def held_to(self, points):
        """The told narrowest lines, held against the least width and against all lines of it."""
        least = model_widths.least_width(points)
        self.assertEqual(self.asked(least_width, points), q(least))
        told = self.asked(narrowest, points)
        self.assertIsInstance(told, list)
        self.assertEqual(told, model_widths.narrowest(points))
        self.assertIn(len(told), (1, 2))
        for line in told:
            self.assertEqual(width(points, line), q(least))
        return told

    def test_one_line(self):
        self.assertEqual(self.held_to(pts((0, 0), (1, 1), (2, 0))), [row("1/2", 0)])
        self.assertEqual(self.held_to(pts((0, 0), (1, -1), (2, 0))), [row("-1/2", 0)])
        self.assertEqual(self.held_to(pts((0, 0), (1, 6), (3, 0))), [row(3, 0)])
        self.assertEqual(self.held_to(pts((0, 0), (1, 6), (3, 3))), [row("5/2", 1)])
        self.assertEqual(self.asked(least_width, pts((0, 0), (1, 6), (3, 3))), q(5, 2))
        heavy = pts((0, 0, 2), (1, 1, 3), (2, 0, "1/2"))
        self.assertEqual(self.asked(least_width, heavy), q(12, 19))
        self.held_to(heavy)

    def test_one_line_though_two_have_one_x(self):
        self.assertEqual(self.held_to(pts((0, 0), (0, 2), (1, 0), (1, 2))), [row(1, 0)])
        self.assertEqual(self.held_to(pts((0, 0), (0, 2), (5, 7), (5, 5))), [row(1, 1)])
        self.assertEqual(self.held_to(pts((0, 0), (0, 2), (1, 8), (2, 0))), [row(4, 0)])

    def test_two_lines(self):
        self.assertEqual(self.held_to(pts((0, 0), (0, 2), (5, 1))), [row(1, "-1/5"), row(1, "1/5")])
        self.assertEqual(self.held_to(pts((0, 0), (0, 2), (1, 1, 2))), [row(1, "-1/2"), row(1, "1/2")])
        self.assertEqual(self.held_to(pts((3, 0), (3, 2), (0, 1))), [row(0, "1/3"), row(2, "-1/3")])
        self.assertEqual(self.held_to(pts((3, 0), (3, 2), (0, 1), (6, 1), (5, 1))), [row(0, "1/3"), row(2, "-1/3")])
        self.assertEqual(self.held_to(pts((3, 0), (3, 2), (0, 1), (4, 1, 9))), [row("2/3", "1/9"), row("4/3", "-1/9")])

    def test_sorted_by_height_and_then_by_slope(self):
        for points in (pts((0, 0), (0, 2), (5, 1)), pts((-3, 0), (-3, 2), (0, 1)), pts((3, 0), (3, 2), (0, 1))):
            told = self.held_to(points)
            self.assertEqual(len(told), 2)
            self.assertEqual(told, sorted(told, key=lambda line: (num(line[0]), num(line[1]))))

    def test_a_width_of_nought(self):
        for points in (pts((0, 5), (2, 4)), pts((0, 5), (2, 4, 9), (4, 3), (1, "9/2")), pts((0, 5), (0, 5), (2, 4))):
            self.assertEqual(self.asked(least_width, points), q(0))
            self.assertEqual(self.held_to(points), [row(5, "-1/2")])
        points = pts(*[(k, 2 * k - 3, k + 1) for k in range(12)])
        self.assertEqual(self.held_to(points), [row(-3, 2)])

    def test_any(self):
        for points in all_points(2003, 3, [2, 3, 4, 6]):
            told = self.held_to(points)
            if len({point[0] for point in points}) == len(points):
                self.assertEqual(len(told), 1)

    def test_two_lines_of_many_points(self):
        found = 0
        chance = random.Random(2005)
        for _ in range(40):
            points = [(samples.whole(chance, 3), samples.whole(chance, 1), samples.weight(chance)) for _ in range(5)]
            points += pts((1, 20), (1, -20))
            found += len(self.held_to(chance.sample(points, 7))) == 2
        self.assertGreater(found, 10)

    def test_twelve_points(self):
        for points in samples.spread_ones(2006, 1, [12]):
            self.held_to(points)
        points = samples.long_spread(2007, [12])[0]
        told = self.asked(narrowest, points)
        self.assertEqual(self.asked(least_width, points), q(model_widths.least_width(points)))
        self.assertEqual({width(points, line) for line in told}, {least_width(points)})
        self.assertEqual(len(told), 1)

    def test_no_line_is_narrower(self):
        chance = random.Random(2008)
        for points in all_points(2009, 2, [3, 5]):
            least, told = num(least_width(points)), narrowest(points)
            lines = pair_lines(points) + [samples.small_line(chance) for _ in range(5)]
            for by in [(LITTLE, 0), (-LITTLE, 0), (0, LITTLE), (0, -LITTLE)]:
                lines += [tilted_line(line, row(*by)) for line in told]
            for line in lines:
                self.assertGreaterEqual(num(width(points, line)), least)

    def test_all_mixtures_of_the_two_and_none_beyond(self):
        chance = random.Random(2010)
        for points in (pts((0, 0), (0, 2), (5, 1)), pts((3, 0), (3, 2), (0, 1), (4, 1, 9), (-7, 1, "1/5"))):
            told = narrowest(points)
            self.assertEqual(len(told), 2)
            for _ in range(5):
                self.assertEqual(width(points, mixed(told, samples.shares(chance, 2))), least_width(points))
            (low, slope), (high, other) = model.numbers(told)
            for part in (-LITTLE, 1 + LITTLE, Fraction(-1), Fraction(2)):
                beyond = (q(low + (high - low) * part), q(slope + (other - slope) * part))
                self.assertGreater(num(width(points, beyond)), num(least_width(points)))

    def test_the_told_alternation_comes_to_it(self):
        for points in all_points(2011, 2, [3, 4, 7]):
            told = alternation(points)
            if told == []:
                self.assertEqual(least_width(points), q(0))
            else:
                self.assertEqual(comes_to(points, told), least_width(points))

    def test_tilted_stretched_and_in_another_order(self):
        chance = random.Random(2012)
        for points in samples.spread_ones(2013, 2, [3, 5]):
            told, least = narrowest(points), num(least_width(points))
            self.assertEqual(narrowest(chance.sample(points, len(points))), told)
            by = samples.small_line(chance)
            self.assertCountEqual(narrowest(tilted(points, by)), [tilted_line(line, by) for line in told])
            self.assertEqual(least_width(tilted(points, by)), q(least))
            for across, tall in [(q(3, 2), q(5)), (q(-2), q(1, 3)), (q(1, 2), q(-3)), (q(-1), q(-1))]:
                moved = stretched(points, across, tall)
                self.assertCountEqual(narrowest(moved), [stretched_line(line, across, tall) for line in told])
                self.assertEqual(least_width(moved), q(least * abs(num(tall))))

    def test_the_very_list_changed_and_handed_in_again(self):
        points = []
        for other in samples.spread_ones(2014, 1, [3, 5]):
            points[:] = other
            told = narrowest(points)
            self.assertEqual(told, narrowest(copy.deepcopy(other)))
            spoilt(told)
            self.assertEqual(narrowest(points), model_widths.narrowest(points))
            points[1] = row(17, 90, 2)
            self.held_to(points)
            self.assertEqual(width(points, row(1, 1)), q(model_widths.width(points, row(1, 1))))

    def test_one_x(self):
        for points in (pts((1, 1)), pts((1, 0), (1, 2)), pts((1, 0), (1, 2), (1, 9)) * 4):
            self.refused("NoSpread", least_width, points)
            self.refused("NoSpread", narrowest, points)


if __name__ == "__main__":
    unittest.main()
