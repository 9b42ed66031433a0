"""Point 19: signs of spots, balanced ones, those that fit best planes."""

import copy
import random
import unittest
from fractions import Fraction

from signlines.planes import least_plane_cost, plane_corners
from signlines.signing import best_signs
from signlines.spots import laid_twice
from signlines.spotsigns import spot_fit, spot_signs
from tests import model, model_spots, samples, wrongs
from tests.helpers import Case, moved, num, pts, q, qs, row, spoilt, sps
from tests.test_planes import CUBE, STRAIGHT

LITTLE = q(1, 10 ** 40)


class Signing(Case):

    def held_to(self, spots, prices):
        """Told signs, held against the document's words."""
        told = self.asked(spot_signs, spots, prices)
        self.assertIsInstance(told, list)
        self.assertEqual(told, [q(num(sign)) for sign in told])
        self.assertEqual(len(told), len(spots))
        self.assertTrue(model_spots.within(spots, prices, told))
        self.assertTrue(model_spots.is_balanced(spots, told))
        least, planes = model_spots.corners(spots, prices)
        self.assertEqual(model_spots.worth(spots, told), least)
        self.assertEqual(q(least), least_plane_cost(spots, prices))
        for plane in planes:
            self.assertTrue(model_spots.fit(spots, prices, plane, told), (spots, prices, plane, told))
            self.told_truth(True, spot_fit, spots, prices, plane, told)
        return told


class SpotSigns(Signing):

    def test_known_ones(self):
        self.assertEqual(self.held_to(sps((0, 0, 1), (1, 0, 3), (0, 1, 6)), row(1, 2)), qs(0, 0, 0))
        self.assertEqual(self.held_to(sps((0, 0, 0), (3, 0, 0), (0, 3, 0), (1, 1, 5)), row(1, 1)),
                         qs("-1/3", "-1/3", "-1/3", 1))
        self.assertEqual(self.held_to(sps((0, 0, 0), (3, 0, 0), (0, 3, 0), (1, 1, -5)), row(1, 2)),
                         qs("2/3", "2/3", "2/3", -2))
        self.assertEqual(self.held_to(CUBE, row(1, 1)), qs(-1, 1, -1, 1, -1, 1))
        self.assertEqual(self.held_to(sps((0, 0, 0), (1, 0, 1), (0, 1, 1), (1, 1, 0)), row(1, 1)), qs(-1, 1, 1, -1))

    def test_spots_on_one_plane(self):
        chance = random.Random(1901)
        for many in (3, 4, 5, 8):
            for _ in range(5):
                height, along, across = map(num, samples.plane(chance))
                places = [(chance.randint(-2, 2), chance.randint(-2, 2)) for _ in range(many)]
                spots = [(q(x), q(y), q(height + along * x + across * y), samples.weight(chance)) for x, y in places]
                if model_spots.is_wide(spots):
                    self.held_to(spots, samples.some_prices(chance))

    def test_spots_above_one_another(self):
        for spots in (sps((0, 0, 0), (0, 0, 1), (0, 0, 5), (1, 0, 2), (1, 0, -3, 2), (0, 1, 7), (0, 1, 7, "1/3")),
                      sps((0, 0, 0), (0, 0, 1)) * 2 + sps((1, 0, 2), (0, 1, 7)) * 2,
                      sps((1, 1, 1)) * 5 + sps((1, 2, 0), (3, 1, 5), (3, 1, -5))):
            for prices in (row(1, 1), row(1, 2), row(5, "1/2")):
                self.held_to(spots, prices)

    def test_all_but_one_on_one_straight_line(self):
        for at in range(8):
            spots = wrongs.with_part(sps(*[(k, 2 * k, (k * k) % 5, k + 1) for k in range(8)]), at, row(1, 1, 9, 2))
            for prices in (row(1, 1), row(1, 3), row(2, 1)):
                self.held_to(spots, prices)

    def test_many_on_a_best_plane(self):
        # A grid laid flat, and one spot off it: six, seven spots are on one plane, in rows of three.
        flat = sps((0, 0, 0), (1, 0, 0), (2, 0, 0), (0, 1, 0), (1, 1, 0), (2, 1, 0), (0, 2, 0))
        for off in (row(1, 2, 5, 1), row(1, 1, -3, 4), row(5, 5, 1, 1), row(0, 0, 2, 3), row("1/2", "1/2", 1, 2)):
            for prices in (row(1, 1), row(1, 3), row(2, 1)):
                for spots in (flat + [off], [off] + flat, flat[:3] + [off] + flat[3:]):
                    self.held_to(spots, prices)

    def test_any(self):
        for spots, prices in model_spots.wide_ones(1902, 6):
            self.held_to(spots, prices)

    def test_long_ones(self):
        chance = random.Random(1903)
        for many in (3, 4, 8):
            prices = (samples.thirty_weight(chance), samples.thirty_weight(chance))
            self.held_to(samples.long_spots(chance, many), prices)

    def test_spots_in_another_order(self):
        chance = random.Random(1904)
        for spots, prices in model_spots.wide_ones(1905, 1):
            order = chance.sample(range(len(spots)), len(spots))
            told = spot_signs([spots[k] for k in order], prices)
            back = [told[order.index(k)] for k in range(len(spots))]
            for plane in plane_corners(spots, prices):
                self.told_truth(True, spot_fit, spots, prices, plane, back)

    def test_no_plane_costs_less_than_their_worth(self):
        chance = random.Random(1906)
        for spots, prices in model_spots.wide_ones(1907, 1):
            told = spot_signs(spots, prices)
            half = [q(num(sign) / 2) for sign in told]
            for signs in (told, half):
                for plane in [samples.plane(chance)] + model_spots.planes(spots)[:6]:
                    here = model_spots.cost(spots, prices, plane)
                    self.assertLessEqual(model_spots.worth(spots, signs), here)
                    self.told_truth(model_spots.worth(spots, signs) == here, spot_fit, spots, prices, plane, signs)

    def test_mixtures_of_the_corners_and_no_planes_beside(self):
        chance = random.Random(1908)
        for spots, prices in model_spots.wide_ones(1909, 1):
            told, found = spot_signs(spots, prices), plane_corners(spots, prices)
            inner = model_spots.mixed(found, samples.shares(chance, len(found)))
            self.told_truth(True, spot_fit, spots, prices, inner, told)
            for k in range(3):
                beside = model_spots.beside(inner, k, num(LITTLE))
                truth = model_spots.cost(spots, prices, beside) == num(least_plane_cost(spots, prices))
                self.told_truth(truth, spot_fit, spots, prices, beside, told)

    def test_points_laid_twice(self):
        chance = random.Random(1910)
        for points in samples.spread_ones(1911, 2, [2, 3, 4]):
            prices = samples.some_prices(chance)
            spots = laid_twice(points, q(0), samples.weight(chance))
            told = self.held_to(spots, prices)
            # Each point's two signs together are twice a sign of the points.
            signs = [q((num(one) + num(other)) / 2) for one, other in zip(told[::2], told[1::2])]
            line = model.corners(points, prices)[1][0]
            self.assertEqual(sum(num(sign) * num(point[1]) for sign, point in zip(signs, points)),
                             model.cost(points, prices, line))
            twice = [sign for sign in best_signs(points, prices) for _ in (0, 1)]
            self.told_truth(True, spot_fit, spots, prices, line + (q(0),), twice)


class Fit(Case):

    SPOTS = sps((0, 0, 0), (3, 0, 0), (0, 3, 0), (1, 1, 5))

    def test_known_ones(self):
        for numbers, plane, truth in [
            (("-1/3", "-1/3", "-1/3", 1), (0, 0, 0), True), (("-1/3", "-1/3", "-1/3", 1), (5, 0, 0), False),
            (("-1/3", "-1/3", "-1/3", 1), (1, 0, 0), False), ((0, 0, 0, 0), (0, 0, 0), False),
            (("-1/3", "-1/3", "-1/3", 1), (0, 0, "1/9"), False), (("-1/6", "-1/6", "-1/6", "1/2"), (0, 0, 0), False),
            (("1/3", "1/3", "1/3", -1), (0, 0, 0), False), ((-1, 0, 0, 1), (0, 0, 0), False),
            (("-1/3", "-1/3", "-1/3", 1), (0, 0, 5), False), ((0, 0, 0, 0), (0, 0, 5), False),
        ]:
            self.assertEqual(model_spots.fit(self.SPOTS, row(1, 1), row(*plane), qs(*numbers)), truth)
            self.told_truth(truth, spot_fit, self.SPOTS, row(1, 1), row(*plane), qs(*numbers))

    def test_each_of_the_three_sums_has_its_part(self):
        flat = sps((0, 0, 0), (1, 0, 0), (0, 1, 0), (1, 1, 0), (2, 1, 0), (1, 2, 0))
        for numbers, truth in [((1, -1, -1, 1, 0, 0), True), ((0, 0, 0, 0, 0, 0), True), ((1, -1, 0, 0, 0, 0), False),
                               ((1, 0, -1, 0, 0, 0), False), ((0, 0, 1, 0, 0, 0), False), ((1, 0, 0, 0, 0, 0), False),
                               ((0, 1, 0, -1, 0, 0), False), ((0, 1, 1, 0, 0, -1), False), ((0, 1, 0, -2, 0, 1), True)]:
            self.assertEqual(model_spots.fit(flat, row(2, 2), row(0, 0, 0), qs(*numbers)), truth)
            self.told_truth(truth, spot_fit, flat, row(2, 2), row(0, 0, 0), qs(*numbers))

    def test_within_their_ends(self):
        flat = sps((0, 0, 0, 2), (1, 0, 0, 2), (0, 1, 0, 2), (1, 1, 0, 2))
        for by, prices, truth in [(2, row(1, 1), True), ("201/100", row(1, 1), False), (-2, row(1, 1), True),
                                  (-3, row(1, 1), False), (6, row(3, 3), True), (6, row(3, 2), False),
                                  (4, row(3, 2), True), (-6, row(2, 3), False), ("1/7", row("1/7", "1/14"), True)]:
            signs = qs(Fraction(by), -Fraction(by), -Fraction(by), Fraction(by))
            self.assertEqual(model_spots.fit(flat, prices, row(0, 0, 0), signs), truth)
            self.told_truth(truth, spot_fit, flat, prices, row(0, 0, 0), signs)

    def test_a_sign_moved_at_any_place(self):
        for spots, prices in model_spots.wide_ones(1921, 1):
            signs, plane = spot_signs(spots, prices), plane_corners(spots, prices)[0]
            for k in range(len(spots)):
                self.told_truth(False, spot_fit, spots, prices, plane, moved(signs, k, LITTLE))
                self.told_truth(False, spot_fit, spots, prices, plane, moved(signs, k, q(-num(LITTLE))))

    def test_spots_that_are_not_wide(self):
        self.told_truth(True, spot_fit, sps((1, 1, 1)), row(1, 1), row(1, 0, 0), qs(0))
        self.told_truth(False, spot_fit, sps((1, 1, 1)), row(1, 1), row(0, 0, 0), qs(0))
        self.told_truth(False, spot_fit, sps((1, 1, 1)), row(1, 1), row(0, 0, 0), qs(1))
        self.told_truth(True, spot_fit, sps((1, 1, 1), (1, 1, 3)), row(1, 1), row(0, 1, 1), qs(-1, 1))
        bow = sps((1, 1, 1), (2, 2, 3), (3, 3, 3))
        self.told_truth(True, spot_fit, bow, row(2, 3), row(0, 0, 1), qs(-1, 2, -1))
        self.told_truth(True, spot_fit, bow, row(2, 3), row(0, 1, 0), qs(-1, 2, -1))
        self.told_truth(False, spot_fit, bow, row(1, 3), row(0, 0, 1), qs(-1, 2, -1))
        for spots in STRAIGHT:
            for plane in (row(0, 0, 0), row(50, 1, 1)):
                signs = qs(*[0] * len(spots))
                truth = model_spots.fit(spots, row(1, 1), plane, signs)
                self.told_truth(truth, spot_fit, spots, row(1, 1), plane, signs)

    def test_what_are_no_signs_fit_nothing(self):
        flat = sps((0, 0, 0), (1, 0, 0), (0, 1, 0))
        self.told_truth(True, spot_fit, flat, row(1, 1), row(0, 0, 0), qs(0, 0, 0))
        for wrong in wrongs.wrong_numbers_for(3):
            self.told_truth(False, spot_fit, flat, row(1, 1), row(0, 0, 0), wrong)


class Refusals(Case):

    def test_spots_on_one_straight_line(self):
        for spots in STRAIGHT:
            self.refused("NoSpread", spot_signs, spots, row(1, 1))
            self.refused("NoPrices", spot_signs, spots, row(1, 0))

    def test_in_their_order(self):
        spots = STRAIGHT[2]
        for wrong in wrongs.wrong_planes():
            self.refused("NoPlane", spot_fit, spots, row(1, 1), wrong, None)
            self.refused("NoPrices", spot_fit, spots, row(1, 0), wrong, None)
            self.refused("NoSpots", spot_fit, pts((0, 0), (1, 1), (2, 0)), row(1, 0), wrong, None)
        for wrong in wrongs.wrong_spots():
            self.refused("NoSpots", spot_signs, wrong, row(1, 1))
            self.refused("NoSpots", spot_fit, wrong, row(1, 1), row(0, 0, 0), [])


class InItsPlace(Signing):

    def test_the_very_list_changed_and_handed_in_again(self):
        spots = []
        for other, prices in model_spots.wide_ones(1931, 1):
            spots[:] = other
            told = spot_signs(spots, prices)
            kept = copy.deepcopy(told)
            spoilt(told)
            self.assertEqual(spot_signs(spots, prices), kept)
            spots[-1] = row(40, 7, 9, "1/2")
            if model_spots.is_wide(spots):
                signs = self.held_to(spots, prices)
                plane = plane_corners(spots, prices)[-1]
                signs[0] = q(num(signs[0]) + 1)
                self.told_truth(False, spot_fit, spots, prices, plane, signs)
            spots[0] = row(1, 1, 1, 0)
            self.refused("NoSpots", spot_signs, spots, prices)


if __name__ == "__main__":
    unittest.main()
