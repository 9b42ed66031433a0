"""Point 17: the least cost at each slope, and how it goes from knot to knot."""

import copy
import random
import unittest
from fractions import Fraction

from signlines.best import least_cost
from signlines.bounded import bound_corners
from signlines.corners import corners, slopes
from signlines.lines import cost
from signlines.points import stretched, tilted
from signlines.profiles import profile, slope_cost
from tests import model, model_bounds, samples, wrongs
from tests.helpers import Case, num, pts, q, row, spoilt

LITTLE = Fraction(1, 10 ** 40)
SQUARE = pts((0, 0), (0, 2), (1, 0), (1, 2))
COLUMNS = [pts((1, 1)), pts((1, 1), (1, 1)), pts((1, 0), (1, 2)), pts((1, 0), (1, 2), (1, 9, "1/3")) * 4]


def knots_of(*rows):
    return [row(*one) for one in rows]


def cost_by(told, slope):
    """The least cost at a slope, a number, by what a profile tells."""
    ahead, knots, behind = num(told[0]), model.numbers(told[1]), num(told[2])
    if slope <= knots[0][0]:
        return knots[0][1] + ahead * (slope - knots[0][0])
    for (one, here), (other, there) in zip(knots, knots[1:]):
        if one <= slope <= other:
            return here + (there - here) * (slope - one) / (other - one)
    return knots[-1][1] + behind * (slope - knots[-1][0])


class SlopeCost(Case):

    def test_known_ones(self):
        points = pts((0, 0), (1, 1), (2, 2), (1, 4))
        for slope, told in [(1, 3), (0, 5), (2, 5), ("1/2", 4), (-1, 7), (10, 21)]:
            self.assertEqual(self.asked(slope_cost, points, row(1, 1), q(slope)), q(told))
        self.assertEqual(self.asked(slope_cost, points, row(2, 1), q(1)), q(6))
        self.assertEqual(self.asked(slope_cost, points, row(1, 2), q(1)), q(3))
        self.assertEqual(self.asked(slope_cost, points, row(9, 1), q(1)), q(9))

    def test_points_of_one_x_cost_alike_at_each_slope(self):
        for points, prices, told in [(COLUMNS[0], row(1, 1), 0), (COLUMNS[1], row(3, 1), 0), (COLUMNS[2], row(1, 1), 2),
                                     (COLUMNS[2], row(1, 3), 2), (COLUMNS[2], row("1/2", 3), 1),
                                     (pts((1, 0), (1, 2), (1, 9)), row(2, 1), 16)]:
            for slope in (q(0), q(7, 3), q(-samples.SIXTY)):
                self.assertEqual(self.asked(slope_cost, points, prices, slope), q(told))

    def test_one_point(self):
        for slope in (q(0), q(5), q(-1, 3)):
            self.assertEqual(self.asked(slope_cost, pts((4, "-7/2", 9)), row(2, 1), slope), q(0))

    def test_all_lines_of_that_slope_through_a_point(self):
        chance = random.Random(1701)
        for points, prices in samples.priced(1702, 2) + [(points, row(2, 3)) for points in COLUMNS]:
            for slope in [samples.small(chance), samples.small(chance)] + samples.slopes_of(points)[:2]:
                told = self.asked(slope_cost, points, prices, slope)
                self.assertEqual(told, q(model_bounds.slope_cost(points, prices, num(slope))))

    def test_no_line_of_that_slope_costs_less(self):
        chance = random.Random(1703)
        for points, prices in samples.priced(1704, 1):
            slope = samples.small(chance)
            least = num(slope_cost(points, prices, slope))
            costs = []
            for x, y, w in model.numbers(points):
                height = y - num(slope) * x
                for by in (0, LITTLE, -LITTLE, Fraction(1, 2)):
                    costs.append(model.cost(points, prices, (q(height + by), slope)))
            self.assertEqual(min(costs), least)

    def test_as_much_as_between_bounds_that_are_alike(self):
        chance = random.Random(1705)
        for points, prices in samples.priced(1706, 1):
            slope = samples.small(chance)
            line = bound_corners(points, prices, (slope, slope))[0]
            self.assertEqual(slope_cost(points, prices, slope), cost(points, prices, line))


class Profile(Case):

    def held_to(self, points, prices):
        """A told profile, held against the costs at all slopes of pair lines, between and beyond."""
        told = self.asked(profile, points, prices)
        self.assertIsInstance(told, tuple)
        ahead, knots, behind = told
        self.assertIsInstance(knots, list)
        self.assertEqual((ahead, behind), (q(num(ahead)), q(num(behind))))
        low, wanted, high = model_bounds.profile(points, prices)
        self.assertEqual((num(ahead), knots, num(behind)), (low, wanted, high))
        marks = [num(slope) for slope, _ in knots]
        self.assertEqual(marks, sorted(set(marks)))
        for slope, here in knots:
            self.assertEqual(slope_cost(points, prices, slope), here)
        between = [(one + other * 2) / 3 for one, other in zip(marks, marks[1:])]
        for slope in between[:6] + [marks[0] - 5, marks[0] - LITTLE, marks[-1] + LITTLE, marks[-1] + 5]:
            self.assertEqual(cost_by(told, slope), model_bounds.slope_cost(points, prices, slope))
        self.bends_upwards(told)
        return told

    def bends_upwards(self, told):
        knots = model.numbers(told[1])
        grown = [(there - here) / (other - one) for (one, here), (other, there) in zip(knots, knots[1:])]
        grown = [num(told[0])] + grown + [num(told[2])]
        for one, other in zip(grown, grown[1:]):
            self.assertLess(one, other)
        self.assertLess(grown[0], 0)
        self.assertGreater(grown[-1], 0)

    def test_two_points(self):
        self.assertEqual(self.held_to(pts((0, 0), (1, 3)), row(1, 1)), (q(-1), knots_of((3, 0)), q(1)))
        self.assertEqual(self.held_to(pts((1, 3), (0, 0)), row(1, 1)), (q(-1), knots_of((3, 0)), q(1)))
        self.assertEqual(self.held_to(pts((0, 0), (2, 3)), row(1, 1)), (q(-2), knots_of(("3/2", 0)), q(2)))
        self.assertEqual(self.held_to(pts((0, 0, 3), (1, 3, "1/2")), row(2, 5)), (q(-1), knots_of((3, 0)), q("5/2")))
        self.assertEqual(self.held_to(pts((0, 0, "1/2"), (1, 3, 3)), row(2, 5)), (q("-5/2"), knots_of((3, 0)), q(1)))

    def test_known_ones(self):
        points = pts((0, 0), (1, 1), (2, 2), (1, 4))
        self.assertEqual(self.held_to(points, row(1, 1)), (q(-2), knots_of((1, 3)), q(2)))
        self.assertEqual(self.held_to(points, row(9, 1)), (q(-4), knots_of((-2, 9), (4, 9)), q(4)))
        self.assertEqual(self.held_to(SQUARE, row(1, 1)), (q(-2), knots_of((-2, 4), (2, 4)), q(2)))
        self.assertEqual(self.held_to(pts((0, 0), (1, 1), (3, 0)), row(1, 1)),
                         (q(-3), knots_of(("-1/2", "3/2"), (0, 1), (1, 3)), q(3)))

    def test_a_pair_lines_slope_at_which_it_goes_straight_is_no_knot(self):
        points = pts((0, 0), (1, 1), (2, 2), (1, 4))
        told = {num(slope) for slope, _ in self.held_to(points, row(1, 1))[1]}
        self.assertEqual(told, {1})
        self.assertEqual({num(line[1]) for line in model.pair_lines(points)}, {1, 4, -2})

    def test_any(self):
        for points, prices in samples.priced(1711, 2):
            self.held_to(points, prices)

    def test_twelve_long_ones(self):
        chance = random.Random(1712)
        points, prices = samples.long_spread(1713, [12])[0], samples.long_prices(chance)
        told = self.asked(profile, points, prices)
        self.bends_upwards(told)
        for slope, here in told[1][:3] + told[1][-3:]:
            self.assertEqual(num(here), model_bounds.slope_cost(points, prices, num(slope)))

    def test_the_best_lines_have_the_slopes_at_which_it_is_least(self):
        for points, prices in samples.priced(1714, 2):
            knots = self.held_to(points, prices)[1]
            least = min(num(here) for _, here in knots)
            self.assertEqual(q(least), least_cost(points, prices))
            best = [num(slope) for slope, here in knots if num(here) == least]
            self.assertEqual((q(min(best)), q(max(best))), slopes(points, prices))
            self.assertLessEqual(set(best), {num(line[1]) for line in corners(points, prices)})

    def test_tilted_stretched_and_in_another_order(self):
        chance = random.Random(1715)
        for points, (up, down) in samples.priced(1716, 1, (2, 5)):
            ahead, knots, behind = profile(points, (up, down))
            line = samples.small_line(chance)
            wanted = [(q(num(slope) + num(line[1])), here) for slope, here in knots]
            self.assertEqual(profile(tilted(points, line), (up, down)), (ahead, wanted, behind))
            # Twice as wide: half the slopes, the same costs. Deep by -3: slopes times -3, costs times 3.
            wanted = [(q(num(slope) / 2), here) for slope, here in knots]
            wide = profile(stretched(points, q(2), q(1)), (up, down))
            self.assertEqual(wide, (q(num(ahead) * 2), wanted, q(num(behind) * 2)))
            wanted = [(q(num(slope) * -3), q(num(here) * 3)) for slope, here in knots[::-1]]
            deep = profile(stretched(points, q(1), q(-3)), (down, up))
            self.assertEqual(deep, (q(-num(behind)), wanted, q(-num(ahead))))
            other = chance.sample(points, len(points))
            self.assertEqual(profile(other, (up, down)), (ahead, knots, behind))


class Refusals(Case):

    def test_points_of_one_x(self):
        for points in COLUMNS:
            self.refused("NoSpread", profile, points, row(1, 1))
            self.refused("NoPrices", profile, points, row(1, 0))
            self.assertEqual(len(self.asked(slope_cost, points, row(1, 1), q(3))), 2)

    def test_in_their_order(self):
        for wrong in wrongs.wrong_fractions():
            self.refused("NoFraction", slope_cost, COLUMNS[2], row(1, 1), wrong)
            self.refused("NoPrices", slope_cost, COLUMNS[2], row(0, 1), wrong)
            self.refused("NoPoints", slope_cost, [], row(0, 1), wrong)


class InItsPlace(Case):

    def test_the_very_list_changed_and_handed_in_again(self):
        points = []
        for other, prices in samples.priced(1721, 1, (2, 5)):
            points[:] = other
            told = profile(points, prices)
            kept = copy.deepcopy(told)
            spoilt(told[1])
            self.assertEqual(profile(points, prices), kept)
            points[0] = row(40, 40, 7)
            low, knots, high = model_bounds.profile(points, prices)
            self.assertEqual(profile(points, prices), (q(low), knots, q(high)))
            self.assertEqual(slope_cost(points, prices, q(2)), q(model_bounds.slope_cost(points, prices, Fraction(2))))


if __name__ == "__main__":
    unittest.main()
