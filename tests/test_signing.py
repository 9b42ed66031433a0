"""Points 3, 9 and 10: signs that fit a line, told just where it is best, and signs of the best lines."""

import copy
import random
import unittest
from fractions import Fraction

from signlines.best import best_line, is_best, least_cost
from signlines.corners import corners
from signlines.lines import mixed, stretched_line, tilted_line
from signlines.pairs import pair_lines
from signlines.points import stretched, tilted
from signlines.signing import best_signs, signs_of
from signlines.signs import fit, worth
from tests import model, model_moving, samples, wrongs
from tests.helpers import Case, num, pts, q, qs, row, spoilt

LITTLE = Fraction(1, 10 ** 40)
CROSS = pts((0, 0), (0, 2), (1, 0), (1, 2))


def near(line, chance):
    """The line a little moved, by height, slope or both."""
    by = chance.choice([(LITTLE, 0), (0, LITTLE), (-LITTLE, 0), (0, -LITTLE)])
    return tilted_line(line, row(*by))


class Signing(Case):

    def held_to(self, points, prices, line, told):
        """Told signs, held against the document's words on signs that fit the line."""
        self.assertIsInstance(told, list)
        self.assertEqual(len(told), len(points))
        self.assertEqual(told, [q(num(sign)) for sign in told])
        self.assertEqual(sum(map(num, told)), 0)
        self.assertEqual(sum(num(sign) * num(x) for sign, (x, y, w) in zip(told, points)), 0)
        self.assertTrue(model_moving.within(points, prices, told))
        self.assertTrue(model_moving.at_their_ends(points, prices, line, told))
        value = sum(num(sign) * num(y) for sign, (x, y, w) in zip(told, points))
        self.assertEqual(value, model.cost(points, prices, line))
        self.assertEqual(worth(points, told), q(value))
        self.assertEqual(value, num(least_cost(points, prices)))
        self.told_truth(True, fit, points, prices, line, told)

    def signed(self, points, prices, line):
        """What is told of the line, held against whether some pair line costs less."""
        told = self.asked(signs_of, points, prices, line)
        best = model.cost(points, prices, line) == model.corners(points, prices)[0]
        self.assertEqual(told is not None, best, (points, prices, line))
        if told is not None:
            self.held_to(points, prices, line, told)
        return told


class SignsOf(Signing):

    def test_two_points_on_the_line_and_all_at_ends(self):
        points = pts((0, 0), (2, 0), (1, 3), (1, -1))
        self.assertEqual(self.signed(points, row(1, 1), row(0, 0)), qs(0, 0, 1, -1))
        self.assertEqual(self.signed(points, row("3/2", 1), row(0, 0)), qs("-1/4", "-1/4", "3/2", -1))
        self.assertEqual(self.signed(pts((0, 0), (3, 0), (1, 3), (1, -1)), row("3/2", 1), row(0, 0)),
                         qs("-1/3", "-1/6", "3/2", -1))
        self.assertEqual(self.signed(points, row(3, 1), row(0, 0)), qs(-1, -1, 3, -1))
        self.assertIsNone(self.signed(points, row("301/100", 1), row(0, 0)))
        self.assertEqual(self.signed(points, row(1, 3), row(0, 0)), qs(1, 1, 1, -3))
        self.assertIsNone(self.signed(points, row(1, "301/100"), row(0, 0)))

    def test_two_points(self):
        for points in (pts((0, 5), (3, "-1/2", 9)), pts(("1/2", 1, "1/9"), ("1/3", 1))):
            line = pair_lines(points)[0]
            self.assertEqual(self.signed(points, row(3, "1/2"), line), qs(0, 0))
            self.assertIsNone(self.signed(points, row(3, "1/2"), tilted_line(line, row(0, 1))))
            self.assertIsNone(self.signed(points, row(3, "1/2"), tilted_line(line, row(1, 0))))
            self.assertEqual(self.asked(best_signs, points, row(3, "1/2")), qs(0, 0))

    def test_lines_through_no_points_and_through_one(self):
        wanted = qs(-1, 1, -1, 1)
        for line in (row(1, 0), row("1/2", "1/3"), row("3/2", -1), row(0, 1), row(0, 0), row(0, 2), row(2, -2)):
            self.assertEqual(self.signed(CROSS, row(1, 1), line), wanted)
        for line in (row(3, 0), row(-1, 0), row(0, 3), row(1, 2), row(0, "201/100"), row("-1/100", 1)):
            self.assertIsNone(self.signed(CROSS, row(1, 1), line))
        for line in (row(1, 0), row("1/2", "1/3"), row(0, 1)):
            self.assertIsNone(self.signed(CROSS, row(1, 2), line))

    def test_all_points_on_the_line(self):
        points = pts((0, 1), (2, 2, 9), (4, 3, "1/2"), (6, 4), (6, 4))
        self.assertIsNotNone(self.signed(points, row(2, 7), row(1, "1/2")))
        self.assertIsNone(self.signed(points, row(2, 7), row(1, "1/3")))

    def test_the_total_can_be_come_to_but_not_the_moment(self):
        points = pts((0, 0), (1, 0), (9, 5), (-9, -5))
        self.assertIsNone(self.signed(points, row(1, 1), row(0, 0)))
        points = pts((0, 0), (1, 0), (9, -5), (-9, 5))
        self.assertIsNone(self.signed(points, row(1, 1), row(0, 0)))
        points = pts((0, 0), (1, 0), (9, 5), (-9, 5))
        self.assertEqual(self.signed(points, row("1/2", 1), row(0, 0)), qs(-1, 0, "1/2", "1/2"))

    def test_the_moment_is_that_of_one_filling(self):
        # On the line the total 0 has moments from -2 to 2: the first and the last are just come to.
        on = [(0, 0), (1, 0), (2, 0)]
        for x, truth in [(1, True), (2, True), (-2, True), ("201/100", False), ("-201/100", False), (-3, False)]:
            points = pts(*on, (x, 7), (0, -9))
            told = self.signed(points, row(1, 1), row(0, 0))
            self.assertEqual(told is not None, truth, x)
        points = pts(*on, (2, 7), (0, -9))
        self.assertEqual(self.asked(signs_of, points, row(1, 1), row(0, 0)), qs(1, 0, -1, 1, -1))
        points = pts(*on, (-2, 7), (0, -9))
        self.assertEqual(self.asked(signs_of, points, row(1, 1), row(0, 0)), qs(-1, 0, 1, 1, -1))

    def test_the_total_is_more_or_less_than_can_be(self):
        points = pts((0, 0), (2, 0), (1, 5, 2))
        self.assertEqual(self.signed(points, row(1, 1), row(0, 0)), qs(-1, -1, 2))
        self.assertIsNone(self.signed(pts((0, 0), (2, 0), (1, 5, "21/10")), row(1, 1), row(0, 0)))
        self.assertEqual(self.signed(pts((0, 0), (2, 0), (1, -5, 2)), row(1, 1), row(0, 0)), qs(1, 1, -2))
        self.assertIsNone(self.signed(pts((0, 0), (2, 0), (1, -5, "21/10")), row(1, 1), row(0, 0)))
        # Here the moment would be 0.
        for y, weight in [(5, 3), (5, "201/100"), (-5, 3), (-5, "201/100")]:
            self.assertIsNone(self.signed(pts((-1, 0), (1, 0), (0, y, weight)), row(1, 1), row(0, 0)))
            self.assertIsNotNone(self.signed(pts((-1, 0), (1, 0), (0, y, 2)), row(1, 1), row(0, 0)))

    def test_points_of_one_x_on_the_line(self):
        points = pts((0, 0), (0, 0, "1/2"), (2, 0), (2, 0, 3), (1, 4), (0, -1))
        self.assertIsNotNone(self.signed(points, row(1, 1), row(0, 0)))
        self.assertIsNotNone(self.signed(pts((0, 0), (0, 4), (0, -4), (1, 3), (1, -3)), row(1, 1), row(0, "1/2")))
        self.assertIsNone(self.signed(pts((0, 0), (0, 4), (0, -4), (1, 3), (1, -3)), row(1, 1), row(0, 4)))

    def test_any_line(self):
        chance = random.Random(901)
        for points, prices in samples.priced(902, 2):
            found = corners(points, prices)
            lines = found[:6] + [mixed(found, samples.shares(chance, len(found)))]
            lines += [near(line, chance) for line in found[:3]] + [samples.small_line(chance)]
            for line in lines + pair_lines(points)[:12]:
                self.signed(points, prices, line)

    def test_long_ones(self):
        chance = random.Random(903)
        for points in samples.long_spread(904, [5, 12]):
            prices = samples.long_prices(chance)
            line = best_line(points, prices)
            self.held_to(points, prices, line, self.asked(signs_of, points, prices, line))
            for other in pair_lines(points)[:3] + [near(line, chance)]:
                told = self.asked(signs_of, points, prices, other)
                self.assertEqual(told is not None, is_best(points, prices, other))

    def test_refusals_in_their_order(self):
        column = pts((1, 1), (1, 2))
        for wrong in wrongs.wrong_lines():
            self.refused("NoLine", signs_of, column, row(1, 1), wrong)
            self.refused("NoPrices", signs_of, column, row(1, 0), wrong)
            self.refused("NoPoints", signs_of, [], row(1, 0), wrong)
        for points in (column, pts((1, 1)), pts((1, 1), (1, 1))):
            self.refused("NoSpread", signs_of, points, row(1, 1), row(1, 0))
            self.refused("NoSpread", best_signs, points, row(1, 1))
            self.refused("NoPrices", best_signs, points, row(1, 0))


class BestSigns(Signing):

    def test_known_ones(self):
        self.assertEqual(self.asked(best_signs, CROSS, row(1, 1)), qs(-1, 1, -1, 1))
        self.assertEqual(self.asked(best_signs, pts((0, 0), (2, 0), (1, 3), (1, -1)), row("3/2", 1)),
                         qs("-1/4", "-1/4", "3/2", -1))

    def test_they_fit_each_best_line_and_no_other(self):
        chance = random.Random(911)
        for points, prices in samples.priced(912, 3):
            told = self.asked(best_signs, points, prices)
            found = corners(points, prices)
            for line in found + [mixed(found, samples.shares(chance, len(found)))]:
                self.held_to(points, prices, line, told)
            for line in [near(line, chance) for line in found[:3]] + [samples.small_line(chance)]:
                self.told_truth(is_best(points, prices, line), fit, points, prices, line, told)

    def test_twelve_long_ones(self):
        chance = random.Random(913)
        points, prices = samples.long_spread(914, [12])[0], samples.long_prices(chance)
        self.held_to(points, prices, best_line(points, prices), self.asked(best_signs, points, prices))

    def test_a_point_raised(self):
        chance = random.Random(915)
        for points, prices in samples.priced(916, 2):
            told = best_signs(points, prices)
            for k in sorted({0, len(points) // 2, len(points) - 1}):
                x, y, weight = points[k]
                for by in (LITTLE, Fraction(1, 2), Fraction(chance.randint(1, 9)), Fraction(1000)):
                    other = wrongs.with_part(points, k, (x, q(num(y) + by), weight))
                    self.assertGreaterEqual(num(best_signs(other, prices)[k]), num(told[k]))

    def test_points_tilted_and_stretched(self):
        chance = random.Random(917)
        for points, (up, down) in samples.priced(918, 1):
            told = best_signs(points, (up, down))
            line = best_line(points, (up, down))
            by = samples.small_line(chance)
            moved = tilted(points, by)
            self.told_truth(True, fit, moved, (up, down), tilted_line(line, by), told)
            self.told_truth(True, fit, points, (up, down), line, best_signs(moved, (up, down)))
            for across, tall in [(q(3, 2), q(5)), (q(-2), q(1, 3)), (q(1, 2), q(-3)), (q(-1), q(-1))]:
                prices = (up, down) if tall[0] > 0 else (down, up)
                other = best_signs(stretched(points, across, tall), prices)
                back = other if tall[0] > 0 else [q(-num(sign)) for sign in other]
                self.told_truth(True, fit, points, (up, down), line, back)
                along = stretched_line(line, across, tall)
                self.assertIsNotNone(signs_of(stretched(points, across, tall), prices, along))

    def test_points_in_another_order(self):
        chance = random.Random(919)
        for points, prices in samples.priced(920, 1):
            order = chance.sample(range(len(points)), len(points))
            told = best_signs([points[k] for k in order], prices)
            back = [told[order.index(k)] for k in range(len(points))]
            self.told_truth(True, fit, points, prices, best_line(points, prices), back)

    def test_the_very_list_changed_and_handed_in_again(self):
        points = []
        for other, prices in samples.priced(921, 1):
            points[:] = other
            told = best_signs(points, prices)
            self.assertEqual(told, best_signs(copy.deepcopy(other), prices))
            line = best_line(points, prices)
            self.assertIsNotNone(signs_of(points, prices, line))
            spoilt(told)
            self.held_to(points, prices, line, best_signs(points, prices))
            points[-1] = row(9, 50, 30)
            if samples.is_spread(points):
                self.held_to(points, prices, best_line(points, prices), best_signs(points, prices))
                self.assertEqual(signs_of(points, prices, line) is None, not is_best(points, prices, line))


if __name__ == "__main__":
    unittest.main()
