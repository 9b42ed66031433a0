"""Points 18 and 19, as far as they have landed: spots, planes, rises, costs, points laid twice."""

import copy
import random
import unittest

from signlines.lines import cost, rises
from signlines.spots import is_plane, is_spots, is_wide, laid_twice, plane_cost, spot_rises
from tests import model, model_spots, samples, wrongs
from tests.helpers import Case, num, pts, q, row, spoilt, sps


def at_places(*places):
    return sps(*[(x, y, k) for k, (x, y) in enumerate(places)])


class WhatTheyAre(Case):

    def test_spots(self):
        for spots in samples.all_spots(1801):
            self.told_truth(True, is_spots, spots)
        self.told_truth(True, is_spots, sps((0, 0, 0), (0, 0, 0), (-1, "-1/2", "-7/3", "1/9")))

    def test_one_to_eight_spots(self):
        for many in range(0, 13):
            self.told_truth(1 <= many <= 8, is_spots, [row(many, 1, 1, 1) for _ in range(many)])
            self.told_truth(1 <= many <= 8, is_spots, [row(k, k * k, -k, k + 1) for k in range(many)])

    def test_no_spots(self):
        for wrong in wrongs.wrong_spots():
            self.told_truth(False, is_spots, wrong)
        self.told_truth(False, is_spots, pts((0, 0), (1, 1), (2, 0)))

    def test_the_weight_is_above_nought(self):
        for weight, truth in [(q(1, 10 ** 29), True), (q(0), False), (q(-1, 10 ** 29), False), (q(-1), False)]:
            for at in range(3):
                spots = wrongs.with_part(sps((0, 0, 0), (1, 1, 1), (2, 2, 2)), at, (q(0), q(0), q(0), weight))
                self.told_truth(truth, is_spots, spots)

    def test_planes(self):
        for numbers in [(0, 0, 0), (1, -1, "1/2"), ("-1/2", 10 ** 29, -3)]:
            self.told_truth(True, is_plane, row(*numbers))
        for wrong in wrongs.wrong_planes():
            self.told_truth(False, is_plane, wrong)


class Wide(Case):

    def test_three_places(self):
        for places, truth in [
            ([(0, 0), (1, 0), (0, 1)], True), ([(0, 0), (1, 1), (2, 2)], False), ([(0, 0), (1, 1), (2, 3)], True),
            ([(0, 0), (2, 1), (-4, -2)], False), ([(0, 5), (0, 7), (0, -1)], False), ([(5, 0), (7, 0), (-1, 0)], False),
            ([(0, 5), (0, 7), (1, 6)], True), ([(1, 1), (1, 1), (2, 5)], False), ([(1, 1), (1, 1), (1, 1)], False),
            ([(3, 1), (2, 2), (1, 3)], False), ([(3, 1), (2, 2), (1, "5/2")], True),
            ([("1/3", "1/2"), ("2/3", 1), ("1/6", "1/4")], False),
        ]:
            for k in range(3):
                self.told_truth(truth, is_wide, at_places(*places[k:], *places[:k]))
                self.told_truth(truth, is_wide, at_places(*places[k::-1], *places[:k:-1]))

    def test_one_and_two_spots(self):
        self.told_truth(False, is_wide, at_places((1, 2)))
        self.told_truth(False, is_wide, at_places((1, 2), (3, 5)))
        self.told_truth(False, is_wide, at_places((1, 2), (1, 2)))

    def test_spots_on_one_straight_line_whatever_their_z(self):
        for spots in (sps((0, 0, 0), (1, 2, 5), (2, 4, -7), (3, 6, 0)), sps((0, 1, 0), (0, 2, 5), (0, 3, -7, 2)),
                      sps((0, 1, 0), (5, 1, 5), (9, 1, -7, 2)), sps(*[(k, 3 - 2 * k, k * k) for k in range(8)])):
            self.told_truth(False, is_wide, spots)

    def test_one_place_off_the_straight_line_at_any_place_of_the_list(self):
        for many in (3, 5, 8):
            for at in range(many):
                for off in ((at, at + 1), ("1/2", 0), (-1, 1)):
                    places = wrongs.with_part([(k, k) for k in range(many)], at, off)
                    self.told_truth(True, is_wide, at_places(*places))

    def test_places_alike_but_for_three(self):
        for at in range(6):
            places = wrongs.with_part([(1, 1)] * 7, at, (2, 2))
            self.told_truth(False, is_wide, at_places(*places, (3, 3)))
            self.told_truth(True, is_wide, at_places(*places, (3, 4)))

    def test_any(self):
        for spots in samples.all_spots(1802, 4):
            self.told_truth(model_spots.is_wide(spots), is_wide, spots)

    def test_a_very_little_off(self):
        little = q(1, samples.THIRTY)
        self.told_truth(True, is_wide, sps((0, 0, 0), (1, 1, 0)) + [(q(2), q(2 + num(little)), q(0), q(1))])
        long = samples.THIRTY
        self.told_truth(False, is_wide, sps((0, 0, 0), (long, 2 * long, 0), (long - 1, 2 * long - 2, 0)))


class LaidTwice(Case):

    def test_known_ones(self):
        self.assertEqual(self.asked(laid_twice, pts((2, 3, 5)), q(7), q(-1, 2)), sps((2, 7, 3, 5), (2, "-1/2", 3, 5)))
        told = self.asked(laid_twice, pts((0, 1), (2, 3, 5), (0, 1)), q(0), q(1))
        self.assertEqual(told, sps((0, 0, 1), (0, 1, 1), (2, 0, 3, 5), (2, 1, 3, 5), (0, 0, 1), (0, 1, 1)))
        told = self.asked(laid_twice, pts((0, 1), (2, 3, 5)), q(1), q(0))
        self.assertEqual(told, sps((0, 1, 1), (0, 0, 1), (2, 1, 3, 5), (2, 0, 3, 5)))

    def test_one_to_four_points(self):
        chance = random.Random(1901)
        for many in range(1, 13):
            for points in (samples.fractions(chance, many), samples.grid(chance, many)):
                one, other = samples.small(chance), q(9)
                if many > 4:
                    self.refused("NoPoints", laid_twice, points, one, other)
                    self.refused("NoPoints", laid_twice, points, one, one)
                    self.refused("NoPoints", laid_twice, points, None, other)
                    continue
                wanted = [(x, side, y, w) for x, y, w in points for side in (one, other)]
                self.assertEqual(self.asked(laid_twice, points, one, other), wanted)
                self.told_truth(True, is_spots, wanted)
                self.told_truth(len({x for x, y, w in points}) > 1, is_wide, wanted)

    def test_alike_fractions(self):
        for one in (q(0), q(1), q(-1, 2), q(samples.SIXTY)):
            self.refused("NoFraction", laid_twice, pts((0, 1), (2, 3, 5)), one, one)
            self.refused("NoFraction", laid_twice, pts((0, 1), (2, 3, 5)), one, tuple(list(one)))
            self.refused("NoPoints", laid_twice, [], one, one)

    def test_a_plane_with_across_nought_costs_twice_as_much_as_the_line(self):
        chance = random.Random(1902)
        for points in samples.spread_ones(1903, 2, [2, 3, 4]):
            prices = samples.some_prices(chance)
            spots = laid_twice(points, samples.small(chance), q(11))
            for line in model.pair_lines(points) + [samples.small_line(chance)]:
                plane = line + (q(0),)
                told = self.asked(plane_cost, spots, prices, plane)
                self.assertEqual(num(told), 2 * num(cost(points, prices, line)))
                self.assertEqual(spot_rises(spots, plane)[::2], rises(points, line))
                self.assertEqual(spot_rises(spots, plane)[1::2], rises(points, line))


class Rises(Case):

    def test_known_ones(self):
        spots = sps((0, 0, 5), (1, 0, 5), (0, 1, 5), (2, 3, "1/2", 7))
        self.assertEqual(self.asked(spot_rises, spots, row(1, 2, 3)), [q(4), q(2), q(1), q(-27, 2)])
        self.assertEqual(self.asked(spot_rises, spots, row(5, 0, 0)), [q(0), q(0), q(0), q(-9, 2)])
        self.assertEqual(self.asked(spot_rises, sps((1, 1, 1)), row(0, "1/2", "1/2")), [q(0)])

    def test_any(self):
        chance = random.Random(1811)
        for spots in samples.all_spots(1812):
            for plane in (samples.plane(chance), tuple(samples.thirty(chance) for _ in range(3))):
                wanted = [q(rise) for rise in model_spots.rises(spots, plane)]
                self.assertEqual(self.asked(spot_rises, spots, plane), wanted)


class Costs(Case):

    def test_known_ones(self):
        spots = sps((0, 0, 1), (1, 0, -2, 3), (0, 1, 0, 5))
        flat = row(0, 0, 0)
        for up, down, told in [(1, 1, 7), (2, 1, 8), (1, 2, 13), ("1/2", "1/3", "5/2")]:
            self.assertEqual(self.asked(plane_cost, spots, row(up, down), flat), q(told))
        self.assertEqual(self.asked(plane_cost, spots, row(1, 10), row(-10, 0, 0)), q(11 + 24 + 50))
        self.assertEqual(self.asked(plane_cost, spots, row(10, 1), row(10, 0, 0)), q(9 + 36 + 50))
        self.assertEqual(self.asked(plane_cost, spots, row(10, 1), row(1, -3, -1)), q(0))
        self.assertEqual(self.asked(plane_cost, sps((2, 3, 7, 9)), row(1, 1), row(0, 2, 1)), q(0))
        self.assertEqual(self.asked(plane_cost, sps((2, 3, 7, 9)), row(1, 1), row(0, 1, 1)), q(18))
        self.assertEqual(self.asked(plane_cost, sps((2, 3, 7, 9)), row(1, 1), row(0, 2, 0)), q(27))

    def test_any(self):
        chance = random.Random(1813)
        for spots in samples.all_spots(1814):
            for plane in (samples.plane(chance), tuple(samples.thirty(chance) for _ in range(3))):
                prices = samples.some_prices(chance)
                told = self.asked(plane_cost, spots, prices, plane)
                self.assertEqual(told, q(model_spots.cost(spots, prices, plane)))

    def test_long_prices(self):
        chance = random.Random(1815)
        for many in (1, 8):
            spots = samples.long_spots(chance, many)
            plane = tuple(samples.thirty(chance) for _ in range(3))
            prices = (q(samples.THIRTY, 7), q(5, samples.THIRTY - 1))
            self.assertEqual(self.asked(plane_cost, spots, prices, plane), q(model_spots.cost(spots, prices, plane)))

    def test_refusals_in_their_order(self):
        for wrong in wrongs.wrong_planes():
            self.refused("NoPlane", plane_cost, sps((0, 0, 0)), row(1, 1), wrong)
            self.refused("NoPrices", plane_cost, sps((0, 0, 0)), row(1, 0), wrong)
            self.refused("NoSpots", plane_cost, sps((0, 0, 0, 0)), row(1, 0), wrong)
            self.refused("NoSpots", spot_rises, sps((0, 0, 0, 0)), wrong)


class InItsPlace(Case):

    def test_the_very_list_changed_and_handed_in_again(self):
        spots, plane = [], row(1, "1/2", -2)
        for other in samples.all_spots(1821, 1):
            spots[:] = other
            told = spot_rises(spots, plane)
            self.assertEqual(told, spot_rises(copy.deepcopy(other), plane))
            spoilt(told)
            spots[len(spots) // 2] = row(7, 8, 9, "1/2")
            self.assertEqual(spot_rises(spots, plane), [q(rise) for rise in model_spots.rises(spots, plane)])
            self.assertEqual(plane_cost(spots, row(1, 3), plane), q(model_spots.cost(spots, row(1, 3), plane)))
            self.assertIs(is_wide(spots), model_spots.is_wide(spots))
            spots[0] = row(1, 1, 1, 0)
            self.refused("NoSpots", spot_rises, spots, plane)
            self.refused("NoSpots", plane_cost, spots, row(1, 3), plane)
            self.assertIs(is_spots(spots), False)

    def test_points_laid_twice_are_the_askers_own(self):
        points = pts((0, 1), (2, 3, 5))
        told = laid_twice(points, q(0), q(1))
        spoilt(told)
        self.assertEqual(points, pts((0, 1), (2, 3, 5)))
        points[1] = row(5, 5, 5)
        again = laid_twice(points, q(0), q(1))
        self.assertEqual(again, sps((0, 0, 1), (0, 1, 1), (5, 0, 5, 5), (5, 1, 5, 5)))


if __name__ == "__main__":
    unittest.main()
