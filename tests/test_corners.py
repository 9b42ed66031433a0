"""Point 11, but for shares: all best lines, by their corners."""

import random
import unittest

from signlines.best import is_best, least_cost
from signlines.corners import corners, heights, kind, slopes
from signlines.lines import cost, mixed, stands
from signlines.pairs import pair_lines
from tests import model, samples
from tests.helpers import Case, num, pts, q, row

CROSS = pts((0, 0), (0, 2), (1, 0), (1, 2))
ONE = pts((0, 0), (1, 1), (2, 2), (1, 4))
PIECE = pts((0, 0), (1, 0), (2, 3))


class Corners(Case):

    def test_one_corner(self):
        self.assertEqual(self.asked(corners, ONE, row(1, 1)), [row(0, 1)])
        self.assertEqual(self.asked(kind, ONE, row(1, 1)), 0)
        self.assertEqual(self.asked(slopes, ONE, row(1, 1)), (q(1), q(1)))
        self.assertEqual(self.asked(heights, ONE, row(1, 1), q(5)), (q(5), q(5)))
        self.assertEqual(self.asked(corners, pts((0, 5), (2, 4)), row(1, 3)), [row(5, "-1/2")])

    def test_two_corners(self):
        points = pts((0, 0), (1, 0), (1, 2), (2, 0), (0, -1))
        for prices in samples.all_prices(random.Random(1)):
            least, found = model.corners(points, prices)
            self.assertEqual(self.asked(corners, points, prices), found)
        pair = pts((0, 1), (1, 0), (1, 3))
        self.assertEqual(self.asked(corners, pair, row(1, 1)), [row(1, -1), row(1, 2)])
        self.assertEqual(self.asked(kind, pair, row(1, 1)), 1)
        self.assertEqual(self.asked(slopes, pair, row(1, 1)), (q(-1), q(2)))
        self.assertEqual(self.asked(heights, pair, row(1, 1), q(0)), (q(1), q(1)))
        self.assertEqual(self.asked(heights, pair, row(1, 1), q(-2)), (q(-3), q(3)))
        self.assertEqual(self.asked(heights, pair, row(1, 1), q(1, 2)), (q(1, 2), q(2)))

    def test_more_corners(self):
        wanted = [row(0, 0), row(0, 2), row(2, -2), row(2, 0)]
        self.assertEqual(self.asked(corners, CROSS, row(1, 1)), wanted)
        self.assertEqual(self.asked(kind, CROSS, row(1, 1)), 2)
        self.assertEqual(self.asked(slopes, CROSS, row(1, 1)), (q(-2), q(2)))
        self.assertEqual(self.asked(heights, CROSS, row(1, 1), q(1, 2)), (q(0), q(2)))
        self.assertEqual(self.asked(heights, CROSS, row(1, 1), q(3)), (q(-4), q(6)))
        self.assertEqual(self.asked(kind, CROSS, row(1, 2)), 0)

    def test_three_corners(self):
        found = []
        for points, prices in samples.priced(121, 12, (4, 6)):
            if len(model.corners(points, prices)[1]) == 3:
                found.append(self.asked(kind, points, prices))
        self.assertGreater(len(found), 0)
        self.assertEqual(set(found), {2})

    def test_all_pair_lines_that_cost_least_sorted(self):
        for points, prices in samples.priced(122, 6):
            least, found = model.corners(points, prices)
            self.assertEqual(self.asked(corners, points, prices), found)
            self.assertEqual(self.asked(kind, points, prices), {1: 0, 2: 1}.get(len(found), 2))
            self.assertNotIsInstance(kind(points, prices), bool)

    def test_long_ones_at_two_prices(self):
        chance = random.Random(123)
        for points in samples.long_spread(124, [5, 12]):
            prices = samples.long_prices(chance)
            self.assertEqual(self.asked(corners, points, prices), model.corners(points, prices)[1])

    def test_mixtures_of_them_are_best_and_pair_lines_beyond_are_not(self):
        chance = random.Random(125)
        for points, prices in samples.priced(126, 2):
            found = corners(points, prices)
            self.assertTrue(is_best(points, prices, mixed(found, samples.shares(chance, len(found)))))
            for line in pair_lines(points)[:20]:
                self.assertEqual(line in found, cost(points, prices, line) == least_cost(points, prices))
            if len(found) > 1:
                low, high = found[0], found[-1]
                beyond = tuple(q(2 * num(high[k]) - num(low[k])) for k in (0, 1))
                self.assertFalse(is_best(points, prices, beyond))


class Reach(Case):

    def test_no_best_line_reaches_farther(self):
        chance = random.Random(131)
        for points, prices in samples.priced(132, 4):
            found = model.corners(points, prices)[1]
            numbers = [num(line[1]) for line in found]
            self.assertEqual(self.asked(slopes, points, prices), (q(min(numbers)), q(max(numbers))))
            for x in (q(0), samples.small(chance), samples.long_number(chance), points[0][0]):
                stood = [num(stands(line, x)) for line in found]
                self.assertEqual(self.asked(heights, points, prices, x), (q(min(stood)), q(max(stood))))

    def test_no_fraction_goes_behind_no_prices_and_ahead_of_no_spread(self):
        column = pts((1, 1), (1, 2))
        self.refused("NoFraction", heights, column, row(1, 1), (2, 4))
        self.refused("NoSpread", heights, column, row(1, 1), q(1))
        self.refused("NoPrices", heights, column, row(1, 0), (2, 4))
        self.refused("NoFraction", heights, CROSS, row(1, 1), None)


if __name__ == "__main__":
    unittest.main()
