"""Points 3 and 12: ranges of signs, points on every best line, and strict signs."""

import copy
import random
import unittest
from fractions import Fraction

from signlines.best import best_line, least_cost
from signlines.corners import corners, kind
from signlines.lines import rises
from signlines.points import stretched, tilted
from signlines.ranges import held, range_of, strict_signs
from signlines.signing import best_signs
from signlines.signs import fit, worth
from tests import model, model_bounds, model_moving, samples, wrongs
from tests.helpers import Case, num, pts, q, row, spoilt

SQUARE = pts((0, 0), (0, 2), (1, 0), (1, 2))
COLUMNS = [pts((1, 1)), pts((1, 1), (1, 1)), pts((1, 0), (1, 2)), pts((1, 0), (1, 2), (1, 9)) * 4]


def ends_of(point, prices):
    return -num(prices[1]) * num(point[2]), num(prices[0]) * num(point[2])


def held_by_all(points, prices):
    """The numbers of the points on all best pair lines, by the model's reckoning."""
    found = [model.rises(points, line) for line in model.corners(points, prices)[1]]
    return [k for k in range(len(points)) if all(over[k] == 0 for over in found)]


class Ranging(Case):

    def ranges(self, points, prices):
        """The told ranges as numbers, held against their form and the points' own ends."""
        found = []
        for k, point in enumerate(points):
            told = self.asked(range_of, points, prices, k)
            self.assertIsInstance(told, tuple)
            self.assertEqual(told, tuple(q(num(end)) for end in told))
            least, greatest = map(num, told)
            low, high = ends_of(point, prices)
            self.assertTrue(low <= least <= greatest <= high, (points, prices, k, told))
            found.append((least, greatest))
        return found

    def known(self, points, prices, *wanted):
        told = self.ranges(points, prices)
        self.assertEqual(told, [(Fraction(least), Fraction(greatest)) for least, greatest in wanted])
        for k in range(len(points)):
            self.assertEqual(told[k], model_bounds.sign_range(points, prices, k))


class Ranges(Ranging):

    def test_one_number_between_its_ends(self):
        self.known(pts((0, 5), (3, -1)), row(1, 2), (0, 0), (0, 0))
        self.known(pts((0, 0), (2, 0), (1, 3), (1, -1)), row("3/2", 1),
                   ("-1/4", "-1/4"), ("-1/4", "-1/4"), ("3/2", "3/2"), (-1, -1))

    def test_three_points_of_a_line(self):
        self.known(pts((0, 0), (1, 0), (2, 0)), row(1, 1), ("-1/2", "1/2"), (-1, 1), ("-1/2", "1/2"))
        self.known(pts((0, 0), (1, 0, 9), (2, 0)), row(1, 1), (-1, 1), (-2, 2), (-1, 1))
        self.known(pts((0, 0), (1, 0, 9), (2, 0)), row(1, 3), (-3, 1), (-2, 6), (-3, 1))
        self.known(pts((0, 0), (1, 0), (3, 0)), row(1, 1), ("-2/3", "2/3"), (-1, 1), ("-1/3", "1/3"))

    def test_partly_up_to_an_own_end(self):
        self.known(pts((0, 0), (1, 0), (2, 0), (3, 0), (1, 5)), row(1, 1),
                   (-1, "1/3"), (-1, 1), (-1, 1), (-1, "2/3"), (1, 1))
        self.known(pts((0, 0), (1, 0, "1/2"), (2, 0)), row(2, 1), ("-1/2", "1/4"), ("-1/2", 1), ("-1/2", "1/4"))

    def test_points_of_one_place(self):
        self.known(pts((0, 0), (0, 0, 2), (1, 0)), row(1, 3), (-2, 1), (-1, 2), (0, 0))
        self.known(pts((0, 0), (0, 0, 5), (1, 0), (1, 3), (1, -3)), row(1, 1),
                   (-1, 1), (-1, 1), (0, 0), (1, 1), (-1, -1))

    def test_a_piece_through_one_point(self):
        points = pts((0, 0, 5), (1, 1), (1, 3))
        self.assertEqual(kind(points, row(1, 1)), 1)
        self.known(points, row(1, 1), (0, 0), (-1, -1), (1, 1))
        points = pts((0, 0, 5), (0, 0), (1, 1), (1, 3))
        self.known(points, row(1, 1), (-1, 1), (-1, 1), (-1, -1), (1, 1))

    def test_a_patch_that_holds_no_point(self):
        self.assertEqual(kind(SQUARE, row(1, 1)), 2)
        self.known(SQUARE, row(1, 1), (-1, -1), (1, 1), (-1, -1), (1, 1))

    def test_the_prices_have_their_part(self):
        self.assertEqual(kind(SQUARE, row(1, 2)), 0)
        self.known(SQUARE, row(1, 2), (-1, -1), (1, 1), (-1, -1), (1, 1))
        self.known(SQUARE, row(2, 1), (-1, -1), (1, 1), (-1, -1), (1, 1))
        self.assertEqual((held(SQUARE, row(1, 2)), held(SQUARE, row(2, 1))), ([0, 2], [1, 3]))

    def test_how_much_the_least_cost_grows_where_a_point_is_raised_and_lowered(self):
        for points, prices in samples.priced(1201, 2, (2, 3, 4, 7)):
            told = self.ranges(points, prices)
            for k in range(len(points)):
                self.assertEqual(told[k], model_bounds.sign_range(points, prices, k), (points, prices, k))

    def test_twelve_points(self):
        chance = random.Random(1202)
        for points, prices in samples.priced(1203, 1, (12,)):
            told = self.ranges(points, prices)
            for k in {0, chance.randrange(12), len(points) - 1}:
                if k < len(points):
                    self.assertEqual(told[k], model_bounds.sign_range(points, prices, k), (points, prices, k))

    def test_signs_that_fit_lie_within(self):
        for points, prices in samples.priced(1204, 2):
            told = self.ranges(points, prices)
            for signs in (best_signs(points, prices), strict_signs(points, prices),
                          model.signs(points, prices, model.corners(points, prices)[1][-1])):
                for sign, (least, greatest) in zip(signs, told):
                    self.assertTrue(least <= num(sign) <= greatest)

    def test_a_number_between_just_where_the_point_is_on_every_best_line(self):
        for points, prices in samples.priced(1205, 2):
            wanted = held_by_all(points, prices)
            lines = model.corners(points, prices)[1]
            over = [model.rises(points, line) for line in lines]
            for k, (least, greatest) in enumerate(self.ranges(points, prices)):
                low, high = ends_of(points[k], prices)
                self.assertEqual(greatest > low and least < high, k in wanted)
                if any(rise[k] > 0 for rise in over):
                    self.assertEqual((least, greatest), (high, high))
                if any(rise[k] < 0 for rise in over):
                    self.assertEqual((least, greatest), (low, low))

    def test_a_point_raised_has_no_lesser_ones(self):
        chance = random.Random(1206)
        for points, prices in samples.priced(1207, 1):
            k = chance.randrange(len(points))
            x, y, weight = points[k]
            least, greatest = map(num, range_of(points, prices, k))
            for by in (Fraction(1, 10 ** 40), Fraction(1, 3), 5, 1000):
                other = wrongs.with_part(points, k, (x, q(num(y) + by), weight))
                self.assertGreaterEqual(num(range_of(other, prices, k)[0]), greatest)

    def test_tilted_stretched_and_in_another_order(self):
        chance = random.Random(1208)
        for points, (up, down) in samples.priced(1209, 1, (2, 4, 7)):
            told = [range_of(points, (up, down), k) for k in range(len(points))]
            by = tilted(points, samples.small_line(chance))
            self.assertEqual([range_of(by, (up, down), k) for k in range(len(points))], told)
            wide = stretched(points, q(-3, 2), q(1, 5))
            self.assertEqual([range_of(wide, (up, down), k) for k in range(len(points))], told)
            down_under = stretched(points, q(2), q(-1, 3))
            for k, (least, greatest) in enumerate(told):
                wanted = (q(-num(greatest)), q(-num(least)))
                self.assertEqual(range_of(down_under, (down, up), k), wanted)
            order = chance.sample(range(len(points)), len(points))
            other = [points[k] for k in order]
            self.assertEqual([range_of(other, (up, down), n) for n in range(len(order))], [told[k] for k in order])

    def test_points_of_one_line(self):
        chance = random.Random(1210)
        for many in (2, 3, 6, 12):
            points = [(samples.small(chance), q(0), samples.weight(chance)) for _ in range(many - 1)] + pts((9, 0))
            prices = samples.some_prices(chance)
            told = self.ranges(points, prices)
            for k in {0, many // 2, many - 1}:
                self.assertEqual(told[k], model_bounds.sign_range(points, prices, k))
                self.assertTrue(told[k][0] <= 0 <= told[k][1])

    def test_long_ones(self):
        chance = random.Random(1211)
        for points in samples.long_spread(1212, [2, 3, 12]):
            prices = samples.long_prices(chance)
            told = self.ranges(points, prices)
            over = model.rises(points, best_line(points, prices))
            for (least, greatest), rise, point in zip(told, over, points):
                low, high = ends_of(point, prices)
                if rise != 0:
                    self.assertEqual((least, greatest), (high, high) if rise > 0 else (low, low))
                else:
                    self.assertTrue(low < least <= greatest < high)


class Held(Ranging):

    def test_known_ones(self):
        for points, prices, told in [
            (pts((0, 5), (3, -1)), row(1, 2), [0, 1]), (pts((0, 0), (1, 0), (2, 0)), row(1, 1), [0, 1, 2]),
            (pts((0, 0), (1, 1), (2, 2), (1, 4)), row(1, 1), [0, 1, 2]), (SQUARE, row(1, 1), []),
            (pts((1, 1), (0, 0, 5), (1, 3)), row(1, 1), [1]),
            (pts((1, 1), (0, 0, 5), (1, 3), (0, 0)), row(1, 1), [1, 3]),
            (pts((1, 4), (0, 0), (1, 1), (2, 2)), row(1, 1), [1, 2, 3]), (SQUARE, row(5, 4), [1, 3]),
        ]:
            self.assertEqual(self.asked(held, points, prices), told)

    def test_all_some_and_none_of_the_points(self):
        lots = set()
        for points, prices in samples.priced(1221, 3) + [(SQUARE, row(1, 1)), (SQUARE * 3, row(5, 5))]:
            told = self.asked(held, points, prices)
            self.assertIsInstance(told, list)
            self.assertEqual(told, held_by_all(points, prices))
            self.assertEqual(told, sorted(told))
            lots.add((kind(points, prices), len(told) > 0, len(told) == len(points)))
            if kind(points, prices) == 0:
                self.assertGreaterEqual(len(told), 2)
            if kind(points, prices) == 1:
                self.assertGreaterEqual(len(told), 1)
            if kind(points, prices) == 2:
                self.assertEqual(told, [])
        for wanted in [(0, True, True), (0, True, False), (1, True, False), (2, False, False)]:
            self.assertIn(wanted, lots)

    def test_two_columns(self):
        for weight in (1, 2, 3):
            points = pts((0, 0), (0, 1), (2, 5), (2, 5, weight))
            for prices in (row(1, 1), row(1, 2), row(2, 1)):
                self.assertEqual(self.asked(held, points, prices), held_by_all(points, prices))
                self.known(points, prices, *[model_bounds.sign_range(points, prices, k) for k in range(4)])


class Strict(Ranging):

    def held_to(self, points, prices):
        """Told strict signs, held against the document's words."""
        told = self.asked(strict_signs, points, prices)
        self.assertIsInstance(told, list)
        self.assertEqual(told, [q(num(sign)) for sign in told])
        self.assertEqual(len(told), len(points))
        self.assertEqual(sum(map(num, told)), 0)
        self.assertEqual(sum(num(sign) * num(point[0]) for sign, point in zip(told, points)), 0)
        self.assertTrue(model_moving.within(points, prices, told))
        least, lines = model.corners(points, prices)
        self.assertEqual(sum(num(sign) * num(point[1]) for sign, point in zip(told, points)), least)
        self.assertEqual(worth(points, told), least_cost(points, prices))
        for line in lines:
            self.assertTrue(model_moving.at_their_ends(points, prices, line, told))
            self.told_truth(True, fit, points, prices, line, told)
        for k in held_by_all(points, prices):
            low, high = ends_of(points[k], prices)
            self.assertTrue(low < num(told[k]) < high, (points, prices, k, told))
        return told

    def test_known_ones(self):
        self.assertEqual(self.held_to(pts((0, 5), (3, -1)), row(1, 2)), [q(0), q(0)])
        self.assertEqual(self.held_to(SQUARE, row(1, 1)), [q(-1), q(1), q(-1), q(1)])
        self.held_to(pts((0, 0), (1, 0), (2, 0)), row(1, 1))
        self.held_to(pts((0, 0), (1, 0, 9), (2, 0)), row(1, 9))
        self.held_to(pts((0, 0), (0, 0, 9), (2, 0), (2, 0, "1/9"), (1, 3), (1, -1)), row(2, 3))

    def test_where_the_first_fillings_are_at_their_own_ends(self):
        # Filled from one side alone, the signs of points on the line are at their own ends.
        for points in (pts((0, 0), (1, 0), (2, 0), (3, 0)), pts((0, 0), (1, 0), (1, 0), (2, 0), (1, 4), (1, -4)),
                       pts(*[(k, 0) for k in range(12)]), pts(*[(k // 2, k // 2, k + 1) for k in range(12)])):
            for prices in (row(1, 1), row(1, 5), row(7, 2)):
                self.held_to(points, prices)

    def test_any(self):
        for points, prices in samples.priced(1231, 4):
            self.held_to(points, prices)

    def test_long_ones(self):
        chance = random.Random(1232)
        for points in samples.long_spread(1233, [2, 3, 12]):
            self.held_to(points, samples.long_prices(chance))

    def test_long_ones_on_one_line(self):
        chance = random.Random(1234)
        points = [(samples.long_number(chance), q(0), samples.long_weight(chance)) for _ in range(6)]
        self.held_to(points, samples.long_prices(chance))
        line = (q(3), q(-2, 7))
        self.held_to(tilted(points, line), row(1, 2))

    def test_points_put_on_the_best_line(self):
        chance = random.Random(1235)
        for points, prices in samples.priced(1236, 1, (2, 3, 5)):
            height, slope = map(num, best_line(points, prices))
            x = num(samples.small(chance))
            self.held_to(points + [(q(x), q(height + slope * x), samples.weight(chance))], prices)


class Refusals(Case):

    def test_no_number(self):
        points = pts((0, 0), (1, 1), (2, 5), (3, 3))
        for wrong in wrongs.wrong_numbers(4):
            self.refused("NoNumber", range_of, points, row(1, 1), wrong)
            self.refused("NoNumber", range_of, COLUMNS[3][:4], row(1, 1), wrong)
            self.refused("NoPrices", range_of, points, row(1, 0), wrong)
            self.refused("NoPoints", range_of, [], row(1, 0), wrong)
        for k in range(4):
            self.assertEqual(len(self.asked(range_of, points, row(1, 1), k)), 2)

    def test_numbers_go_with_the_points(self):
        for many in (2, 11, 12):
            points = pts(*[(k, k * k) for k in range(many)])
            self.assertEqual(len(self.asked(range_of, points, row(1, 1), many - 1)), 2)
            self.refused("NoNumber", range_of, points, row(1, 1), many)

    def test_points_of_one_x(self):
        for points in COLUMNS:
            self.refused("NoSpread", range_of, points, row(1, 1), 0)
            self.refused("NoSpread", held, points, row(1, 1))
            self.refused("NoSpread", strict_signs, points, row(1, 1))
            self.refused("NoNumber", range_of, points, row(1, 1), len(points))
            for ask in (held, strict_signs):
                self.refused("NoPrices", ask, points, row(1, 0))


class InItsPlace(Ranging):

    def test_the_very_list_changed_and_handed_in_again(self):
        points = []
        for other, prices in samples.priced(1241, 1, (2, 5)):
            points[:] = other
            told = [range_of(points, prices, 0), held(points, prices), strict_signs(points, prices)]
            kept = copy.deepcopy(told)
            for one in told[1:]:
                spoilt(one)
            again = [range_of(points, prices, 0), held(points, prices), strict_signs(points, prices)]
            self.assertEqual(again, kept)
            points[-1] = row(40, 40, 7)
            if samples.is_spread(points):
                self.assertEqual(held(points, prices), held_by_all(points, prices))
                told = tuple(map(num, range_of(points, prices, 0)))
                self.assertEqual(told, model_bounds.sign_range(points, prices, 0))
                for line in corners(points, prices)[:3]:
                    self.told_truth(True, fit, points, prices, line, strict_signs(points, prices))
                    self.assertTrue(all(rises(points, line)[k] == (0, 1) for k in held(points, prices)))


if __name__ == "__main__":
    unittest.main()
