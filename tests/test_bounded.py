"""Points 3 and 16: lines with slopes between told bounds, their corners, bound signs and their price."""

import copy
import random
import unittest
from fractions import Fraction

from signlines.best import least_cost
from signlines.bounded import bound_corners, bound_fit, bound_signs
from signlines.corners import corners, slopes
from signlines.lines import cost, mixed
from signlines.mixing import shares_of
from signlines.points import stretched, tilted
from signlines.signing import best_signs
from signlines.signs import fit, worth
from tests import model, model_bounds, model_moving, samples, wrongs
from tests.helpers import Case, moved, num, pts, q, qs, row, spoilt

LITTLE = q(1, 10 ** 40)
SQUARE = pts((0, 0), (0, 2), (1, 0), (1, 2))
COLUMNS = [pts((1, 1)), pts((1, 1), (1, 1)), pts((1, 0), (1, 2)), pts((1, 0), (1, 2), (1, 9, "1/3")) * 4]
NO_BOUNDS = (None, None)


def bounded(seed, each=1, counts=(2, 3, 5, 12)):
    """Spread points with prices and bounds of every make."""
    chance = random.Random(seed)
    found = []
    for points, prices in samples.priced(seed + 1, each, counts):
        if max(len(str(x)) for x, y, w in points) < 30:
            lots = samples.bounds(chance, points)
        else:
            lots = samples.long_bounds(chance)
        found += [(points, prices, bounds) for bounds in lots]
    return found


def in_columns(seed):
    """Points of one x with prices and both bounds."""
    chance = random.Random(seed)
    found = []
    for points in COLUMNS:
        for low, high in samples.bounds(chance, points):
            if low is not None and high is not None:
                found.append((points, samples.some_prices(chance), (low, high)))
    return found


class Corners(Case):

    def held_to(self, points, prices, bounds):
        """Told corners, held against going through all lines that may be such."""
        told = self.asked(bound_corners, points, prices, bounds)
        self.assertIsInstance(told, list)
        self.assertEqual(told, model_bounds.bound_corners(points, prices, bounds)[1])
        return told

    def test_known_ones(self):
        points = pts((0, 0), (1, 1), (2, 2), (1, 4))
        for bounds, told in [
            (NO_BOUNDS, [row(0, 1)]), ((None, q(1)), [row(0, 1)]), ((q(1), None), [row(0, 1)]),
            ((q(1), q(1)), [row(0, 1)]), ((q(0), q(2)), [row(0, 1)]),
            ((None, q(0)), [row(1, 0), row(2, 0)]), ((q(2), None), [row(-1, 2), row(0, 2)]),
            ((q(2), q(7)), [row(-1, 2), row(0, 2)]), ((q("1/2"), q("2/3")), [row("1/3", "2/3"), row("2/3", "2/3")]),
            ((q("1/2"), q("1/2")), [row("1/2", "1/2"), row(1, "1/2")]),
        ]:
            self.assertEqual(self.held_to(points, row(1, 1), bounds), told)

    def test_no_bounds_are_all_best_lines(self):
        for points, prices in samples.priced(1601, 2):
            told = self.held_to(points, prices, NO_BOUNDS)
            self.assertEqual(told, corners(points, prices))
            low, high = slopes(points, prices)
            for bounds in ((low, high), (low, None), (None, high), (q(num(low) - 3), q(num(high) + 3))):
                self.assertEqual(self.held_to(points, prices, bounds), told)

    def test_a_part_of_a_patch(self):
        self.assertEqual(self.held_to(SQUARE, row(1, 1), (q(-1), q(1))),
                         [row(0, 0), row(0, 1), row(1, -1), row(1, 1), row(2, -1), row(2, 0)])
        self.assertEqual(self.held_to(SQUARE, row(1, 1), (q(1), q(1))), [row(0, 1), row(1, 1)])
        self.assertEqual(self.held_to(SQUARE, row(1, 1), (q(2), None)), [row(0, 2)])
        self.assertEqual(self.held_to(SQUARE, row(1, 1), (None, q(-2))), [row(2, -2)])

    def test_points_of_one_x(self):
        self.assertEqual(self.held_to(pts((1, 1)), row(1, 2), (q(2), q(3))), [row(-2, 3), row(-1, 2)])
        self.assertEqual(self.held_to(pts((1, 0), (1, 2)), row(1, 2), (q(0), q(0))), [row(0, 0)])
        self.assertEqual(self.held_to(pts((1, 0), (1, 2)), row(1, 1), (q(0), q(1))),
                         [row(-1, 1), row(0, 0), row(1, 1), row(2, 0)])
        for points, prices, bounds in in_columns(1602):
            self.held_to(points, prices, bounds)

    def test_no_pair_lines_slope_lies_within(self):
        points = pts((0, 0), (1, 1), (2, 5))
        for bounds in ((q(2), q("9/4")), (q(5), q(6)), (q(-9), q(0)), (q("5/2"), q("5/2")), (q(7), None),
                       (None, q("1/2")), (q("3/2"), q("3/2"))):
            told = self.held_to(points, row(1, 1), bounds)
            self.assertTrue(all(line[1] in bounds for line in told))

    def test_any(self):
        for points, prices, bounds in bounded(1603, 2):
            self.held_to(points, prices, bounds)

    def test_no_line_within_costs_less_and_those_that_cost_as_little_are_mixtures(self):
        chance = random.Random(1604)
        for points, prices, bounds in bounded(1605, 1, (2, 4, 7)):
            told = bound_corners(points, prices, bounds)
            least = model.cost(points, prices, told[0])
            lines = model_bounds.bound_lines(points, bounds)
            lines += [mixed(lines[:30], samples.shares(chance, len(lines[:30]))) for _ in range(3)]
            lines.append(mixed(told[:30], samples.shares(chance, len(told[:30]))))
            for line in lines[-12:]:
                here = model.cost(points, prices, line)
                self.assertGreaterEqual(here, least)
                if len(told) <= 30:
                    self.assertEqual(here == least, shares_of(told, line) is not None, (points, prices, bounds, line))

    def test_a_wider_pair_of_bounds_costs_no_more(self):
        for points, prices, (low, high) in bounded(1606, 1, (3, 5)):
            here = cost(points, prices, bound_corners(points, prices, (low, high))[0])
            for wider in ((None, high), (low, None)):
                there = cost(points, prices, bound_corners(points, prices, wider)[0])
                self.assertLessEqual(num(there), num(here))
            self.assertLessEqual(num(least_cost(points, prices)), num(here))

    def test_tilted_stretched_and_in_another_order(self):
        chance = random.Random(1607)
        for points, (up, down), (low, high) in bounded(1608, 1, (2, 5)):
            told = model.numbers(bound_corners(points, (up, down), (low, high)))
            height, slope = map(num, samples.small_line(chance))
            ends = tuple(None if end is None else q(num(end) + slope) for end in (low, high))
            wanted = [model.told((a + height, b + slope)) for a, b in told]
            self.assertEqual(bound_corners(tilted(points, (q(height), q(slope))), (up, down), ends), wanted)
            # Twice as wide and three times as deep: slopes times -3/2, prices the other way.
            ends = tuple(None if end is None else q(num(end) * Fraction(-3, 2)) for end in (high, low))
            wanted = [model.told(line) for line in sorted((a * -3, b * Fraction(-3, 2)) for a, b in told)]
            self.assertEqual(bound_corners(stretched(points, q(2), q(-3)), (down, up), ends), wanted)
            other = chance.sample(points, len(points))
            self.assertEqual(bound_corners(other, (up, down), (low, high)), [model.told(line) for line in told])


class Signs(Case):

    def held_to(self, points, prices, bounds):
        """Told bound signs, held against the document's words; the price as a number."""
        told = self.asked(bound_signs, points, prices, bounds)
        self.assertIsInstance(told, tuple)
        signs, price = told
        self.assertIsInstance(signs, list)
        self.assertEqual(signs, [q(num(sign)) for sign in signs])
        self.assertEqual(price, q(num(price)))
        self.assertEqual(len(signs), len(points))
        self.assertEqual(sum(map(num, signs)), 0)
        self.assertEqual(sum(num(sign) * num(point[0]) for sign, point in zip(signs, points)), num(price))
        self.assertTrue(model_moving.within(points, prices, signs))
        least, lines = model_bounds.bound_corners(points, prices, bounds)
        for line in lines:
            self.assertTrue(model_moving.at_their_ends(points, prices, line, signs))
            self.assertTrue(num(price) <= 0 or line[1] == bounds[1], (points, prices, bounds, told))
            self.assertTrue(num(price) >= 0 or line[1] == bounds[0], (points, prices, bounds, told))
            self.assertEqual(num(worth(points, signs)) - num(price) * num(line[1]), least)
            self.told_truth(True, bound_fit, points, prices, bounds, line, told)
        return num(price)

    def test_known_ones(self):
        two = pts((0, 0), (1, 1))
        self.assertEqual(self.asked(bound_signs, two, row(1, 1), (None, q(0))), (qs(-1, 1), q(1)))
        self.assertEqual(self.asked(bound_signs, two, row(1, 1), (q(2), None)), (qs(1, -1), q(-1)))
        self.assertEqual(self.asked(bound_signs, two, row(1, 3), (None, q(0))), (qs(-1, 1), q(1)))
        self.assertEqual(self.asked(bound_signs, two, row(3, 1), (None, q(0))), (qs(-1, 1), q(1)))
        self.assertEqual(self.asked(bound_signs, two, row(3, 2), (q(5), q(6))), (qs(2, -2), q(-2)))
        self.assertEqual(self.asked(bound_signs, two, row(3, 2), NO_BOUNDS), (qs(0, 0), q(0)))
        self.assertEqual(self.asked(bound_signs, pts((3, 4)), row(3, 2), (q(5), q(6))), (qs(0), q(0)))
        self.assertEqual(self.asked(bound_signs, pts((3, 4), (3, 0)), row(1, 1), (q(5), q(6))), (qs(1, -1), q(0)))

    def test_a_price_of_nought_above_and_below_on_each_side(self):
        points = pts((0, 0), (1, 1), (2, 2), (1, 4), (5, 4))
        low, high = map(num, slopes(points, row(1, 1)))
        self.assertEqual(self.held_to(points, row(1, 1), (q(low), q(high))), 0)
        self.assertEqual(self.held_to(points, row(1, 1), (q(low - 1), q(high + 1))), 0)
        self.assertGreater(self.held_to(points, row(1, 1), (None, q(low - 1))), 0)
        self.assertGreater(self.held_to(points, row(1, 1), (q(low - 2), q(low - num(LITTLE)))), 0)
        self.assertLess(self.held_to(points, row(1, 1), (q(high + 1), None)), 0)
        self.assertLess(self.held_to(points, row(1, 1), (q(high + num(LITTLE)), q(high + 2))), 0)
        self.assertGreater(self.held_to(points, row(1, 1), (q(low - 1), q(low - 1))), 0)
        self.assertLess(self.held_to(points, row(1, 1), (q(high + 1), q(high + 1))), 0)

    def test_any(self):
        told = [self.held_to(points, prices, bounds) for points, prices, bounds in bounded(1611, 2)]
        self.assertEqual({(price > 0) - (price < 0) for price in told}, {-1, 0, 1})

    def test_points_of_one_x(self):
        for points, prices, bounds in in_columns(1612):
            self.assertEqual(self.held_to(points, prices, bounds), 0)

    def test_twelve_long_ones(self):
        chance = random.Random(1613)
        points, prices = samples.long_spread(1614, [12])[0], samples.long_prices(chance)
        for bounds in samples.long_bounds(chance):
            self.held_to(points, prices, bounds)

    def test_within_no_bounds_they_fit_the_best_lines(self):
        for points, prices in samples.priced(1615, 1):
            signs, price = bound_signs(points, prices, NO_BOUNDS)
            self.assertEqual(price, q(0))
            for line in corners(points, prices)[:3]:
                self.told_truth(True, fit, points, prices, line, signs)
                self.told_truth(True, bound_fit, points, prices, NO_BOUNDS, line, (best_signs(points, prices), q(0)))

    def test_their_worth_less_the_price_times_the_slope_is_no_more_than_the_cost_of_any_line_within(self):
        chance = random.Random(1616)
        for points, prices, bounds in bounded(1617, 1, (2, 4)):
            told = bound_signs(points, prices, bounds)
            lines = model_bounds.bound_lines(points, bounds)
            for line in lines + [mixed(lines[:30], samples.shares(chance, len(lines[:30])))]:
                value = num(worth(points, told[0])) - num(told[1]) * num(line[1])
                here = model.cost(points, prices, line)
                self.assertLessEqual(value, here)
                truth = here == model_bounds.bound_corners(points, prices, bounds)[0]
                self.told_truth(truth, bound_fit, points, prices, bounds, line, told)


class Fit(Case):

    POINTS = pts((0, 0), (1, 1), (2, 2), (1, 4))
    PRICES = row(1, 1)

    def test_the_price_goes_with_the_side(self):
        line = row(0, 1)
        above, beneath, neither = qs(-1, 0, 0, 1), qs(0, 0, -1, 1), qs(0, -1, 0, 1)
        for low, high, signs, price, truth in [
            (None, 1, above, 1, True), (1, 1, above, 1, True), (0, 1, above, 1, True), (None, None, above, 1, False),
            (1, None, above, 1, False), (1, 2, above, 1, False), (0, 2, above, 1, False), (None, 1, above, 0, False),
            (None, 1, above, -1, False), (1, None, beneath, -1, True), (1, 1, beneath, -1, True),
            (1, 3, beneath, -1, True), (None, None, beneath, -1, False), (None, 1, beneath, -1, False),
            (0, 1, beneath, -1, False), (0, None, beneath, -1, False), (1, None, beneath, 1, False),
            (1, None, beneath, 0, False), (1, None, neither, 0, True), (None, None, neither, 0, True),
            (0, 2, neither, 0, True), (None, None, qs(0, -1, 0, 0), 0, False),
        ]:
            bounds = tuple(None if end is None else q(end) for end in (low, high))
            self.assertEqual(model_bounds.bound_fit(self.POINTS, self.PRICES, bounds, line, signs, q(price)), truth)
            self.told_truth(truth, bound_fit, self.POINTS, self.PRICES, bounds, line, (signs, q(price)))

    def test_a_line_beyond_the_bounds(self):
        told = (qs(0, -1, 0, 1), q(0))
        near = q(1 - num(LITTLE)), q(1 + num(LITTLE))
        for bounds, truth in [
            ((None, near[0]), False), ((near[1], None), False), ((near[1], near[1]), False),
            ((near[0], near[0]), False),
            ((q(2), q(3)), False), ((q(0), q("1/2")), False), ((near[0], near[1]), True), ((q(1), q(1)), True),
            ((None, near[1]), True), ((near[0], None), True),
        ]:
            self.told_truth(truth, bound_fit, self.POINTS, self.PRICES, bounds, row(0, 1), told)

    def test_what_is_no_tuple_of_signs_and_a_price(self):
        told = (qs(0, -1, 0, 1), q(0))
        right = (self.POINTS, self.PRICES, NO_BOUNDS, row(0, 1))
        self.told_truth(True, bound_fit, *right, told)
        for wrong in wrongs.wrong_numbers_for(4):
            self.told_truth(False, bound_fit, *right, (wrong, q(0)))
            self.told_truth(False, bound_fit, *right, wrong)
        for wrong in wrongs.NO_FRACTIONS:
            self.told_truth(False, bound_fit, *right, (told[0], wrong))
        near = [list(told), told[0], told[1], told + (q(0),), told[:1], (told,), told[::-1], ()]
        for wrong in wrongs.NOTHINGS + near:
            self.told_truth(False, bound_fit, *right, wrong)

    def test_as_the_model_has_it_of_anything_near(self):
        chance = random.Random(1621)
        truths = []
        for points, prices, bounds in bounded(1622, 1, (2, 4)):
            signs, price = bound_signs(points, prices, bounds)
            line = chance.choice(bound_corners(points, prices, bounds))
            height, slope = map(num, line)
            k = chance.randrange(len(points))
            lots = [(line, signs, price), (line, moved(signs, k, LITTLE), price), (line, signs, q(num(price) + 1)),
                    (line, signs, q(-num(price))), (line, moved(signs, k, q(-num(LITTLE))), price), (line, signs, q(0)),
                    (row(height, slope + num(LITTLE)), signs, price), (row(height - num(LITTLE), slope), signs, price),
                    (samples.small_line(chance), signs, price), (line, best_signs(points, prices), q(0))]
            for one, some, cash in lots:
                truth = model_bounds.bound_fit(points, prices, bounds, one, some, cash)
                self.told_truth(truth, bound_fit, points, prices, bounds, one, (some, cash))
                truths.append(truth)
        self.assertTrue(0 < sum(truths) < len(truths))

    def test_points_of_one_x_with_any_bounds(self):
        points = pts((2, 0), (2, 3))
        for bounds in (NO_BOUNDS, (q(0), None), (None, q(9)), (q(0), q(9))):
            self.told_truth(True, bound_fit, points, row(1, 1), bounds, row(1, "1/2"), (qs(-1, 1), q(0)))
            self.told_truth(False, bound_fit, points, row(1, 1), bounds, row(3, "1/2"), (qs(-1, 1), q(0)))
            self.told_truth(False, bound_fit, points, row(1, 1), bounds, row(1, "1/2"), (qs(0, 1), q(2)))

    def test_just_the_lines_that_cost_least(self):
        for points, prices, bounds in bounded(1623, 1, (3,)) + in_columns(1624):
            told = bound_signs(points, prices, bounds)
            best = bound_corners(points, prices, bounds)
            for line in model_bounds.bound_lines(points, bounds):
                self.told_truth(line in best, bound_fit, points, prices, bounds, line, told)


class Refusals(Case):

    def test_no_bounds_at_all(self):
        for wrong in wrongs.wrong_bounds():
            for points in [SQUARE] + COLUMNS[:2]:
                self.refused("NoBounds", bound_corners, points, row(1, 1), wrong)
                self.refused("NoBounds", bound_signs, points, row(1, 1), wrong)
                self.refused("NoBounds", bound_fit, points, row(1, 1), wrong, row(1, 1), None)
            self.refused("NoBounds", bound_fit, SQUARE, row(1, 1), wrong, None, None)
            self.refused("NoPrices", bound_corners, SQUARE, row(1, 0), wrong)
            self.refused("NoPoints", bound_signs, SQUARE[0], row(1, 0), wrong)

    def test_low_is_no_more_than_high_as_numbers(self):
        for low, high, right in [(1, 1, True), ("1/3", "1/2", True), ("-1/2", "-1/3", True), ("1/2", "1/3", False),
                                 (2, "3/2", False), ("3/2", 2, True), (-1, -2, False), (-2, -1, True), (0, 0, True),
                                 ("-1/7", 0, True), (0, "-1/7", False), ("9/10", 1, True), (1, "9/10", False)]:
            bounds = (q(low), q(high))
            if right:
                self.assertEqual(len(self.asked(bound_signs, SQUARE, row(1, 1), bounds)), 2)
            else:
                self.refused("NoBounds", bound_signs, SQUARE, row(1, 1), bounds)
                self.refused("NoBounds", bound_corners, COLUMNS[0], row(1, 1), bounds)

    def test_points_of_one_x_are_refused_where_a_bound_is_missing(self):
        for points in COLUMNS:
            for bounds in (NO_BOUNDS, (q(1), None), (None, q(1))):
                self.refused("NoSpread", bound_corners, points, row(1, 1), bounds)
                self.refused("NoSpread", bound_signs, points, row(1, 1), bounds)
                self.refused("NoPrices", bound_signs, points, row(1, 0), bounds)
            self.assertEqual(len(self.asked(bound_corners, points, row(1, 1), (q(1), q(1)))) > 0, True)

    def test_no_line(self):
        for wrong in wrongs.wrong_lines():
            for bounds in (NO_BOUNDS, (q(1), q(2))):
                self.refused("NoLine", bound_fit, SQUARE, row(1, 1), bounds, wrong, (qs(0, 0, 0, 0), q(0)))


class InItsPlace(Case):

    def test_the_very_list_changed_and_handed_in_again(self):
        points = []
        for other, prices, bounds in bounded(1631, 1, (2, 5))[::3]:
            points[:] = other
            told = bound_corners(points, prices, bounds), bound_signs(points, prices, bounds)
            kept = copy.deepcopy(told)
            spoilt(told[0])
            spoilt(told[1][0])
            self.assertEqual((bound_corners(points, prices, bounds), bound_signs(points, prices, bounds)), kept)
            points[0] = row(40, 40, 7)
            wanted = model_bounds.bound_corners(points, prices, bounds)[1]
            self.assertEqual(bound_corners(points, prices, bounds), wanted)
            again = bound_signs(points, prices, bounds)
            self.told_truth(True, bound_fit, points, prices, bounds, wanted[0], again)
            again[0][0] = q(num(again[0][0]) + 1)
            self.told_truth(False, bound_fit, points, prices, bounds, wanted[0], again)


if __name__ == "__main__":
    unittest.main()
