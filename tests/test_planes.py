"""Points 18 and 19: best planes, those of them through three spots, and what they cost."""

import copy
import random
import unittest
from fractions import Fraction

from signlines.best import is_best, least_cost
from signlines.corners import corners
from signlines.pairs import pair_lines
from signlines.planes import least_plane_cost, plane_corners
from signlines.spots import laid_twice, plane_cost, spot_rises
from tests import model, model_spots, samples, wrongs
from tests.helpers import Case, num, pts, q, row, spoilt, sps

LITTLE = Fraction(1, 10 ** 40)
CUBE = sps((0, 0, 0), (0, 0, 2), (1, 0, 0), (1, 0, 2), (0, 1, 0), (0, 1, 2))
STRAIGHT = [
    sps((1, 1, 1)), sps((0, 0, 0), (1, 5, 3)), sps((0, 0, 0), (1, 2, 5), (2, 4, -7), (3, 6, 0)),
    sps((0, 1, 0), (0, 2, 5), (0, 3, -7, 2)), sps((0, 1, 0), (5, 1, 5), (9, 1, -7, 2)), sps((1, 1, 0), (1, 1, 5)) * 4,
    sps(*[(k, 3 - 2 * k, k * k) for k in range(8)]), sps(*[(k % 2, k % 2, k) for k in range(8)]),
]


class Corners(Case):

    def held_to(self, spots, prices):
        """Told corners and the least cost, held against all planes through three spots."""
        told = self.asked(plane_corners, spots, prices)
        self.assertIsInstance(told, list)
        least, wanted = model_spots.corners(spots, prices)
        self.assertEqual(told, wanted, (spots, prices))
        self.assertEqual(self.asked(least_plane_cost, spots, prices), q(least))
        for plane in told:
            self.assertEqual(plane_cost(spots, prices, plane), q(least))
            self.assertGreaterEqual(spot_rises(spots, plane).count((0, 1)), 3)
        return told

    def test_three_spots(self):
        self.assertEqual(self.held_to(sps((0, 0, 1), (1, 0, 3), (0, 1, 6)), row(1, 2)), [row(1, 2, 5)])
        self.assertEqual(self.held_to(sps((2, 1, "1/2", 9), (-1, 3, 0), (4, 4, -1)), row(3, 1)),
                         [row("15/13", "-3/26", "-11/26")])
        self.assertEqual(self.asked(least_plane_cost, sps((0, 0, 1), (1, 0, 3), (0, 1, 6)), row(1, 2)), q(0))

    def test_four_and_five_spots(self):
        spots = sps((0, 0, 0), (2, 0, 0), (0, 2, 0), ("1/2", "1/2", 5))
        self.assertEqual(self.held_to(spots, row(1, 1)), [row(0, 0, 0)])
        self.assertEqual(self.asked(least_plane_cost, spots, row(1, 1)), q(5))
        self.assertEqual(self.held_to(spots, row(2, 1)), [row(0, 0, 0), row(10, -5, -5)])
        self.assertEqual(self.held_to(spots, row(5, 1)), [row(10, -5, -5)])
        flat = sps((0, 0, 0), (2, 0, 0), (0, 2, 0), (2, 2, 0))
        self.assertEqual(self.held_to(flat + sps((1, 1, 5)), row(1, 1)), [row(0, 0, 0)])
        self.held_to(sps((0, 0, 0), (2, 0, 0), (0, 2, 0), (2, 2, 3)), row(1, 2))

    def test_many_planes_cost_alike(self):
        told = self.held_to(CUBE, row(1, 1))
        self.assertEqual(len(told), 8)
        self.assertEqual(told[0], row(0, 0, 0))
        self.assertEqual(told[-1], row(2, 0, 0))
        self.assertEqual(self.held_to(CUBE, row(1, 2)), [row(0, 0, 0)])
        self.assertEqual(self.held_to(CUBE, row(2, 1)), [row(2, 0, 0)])
        square = sps((0, 0, 0), (1, 0, 1), (0, 1, 1), (1, 1, 0))
        self.assertEqual(len(self.held_to(square, row(1, 1))), 4)
        self.assertEqual(len(self.held_to(square + square, row(1, 1))), 4)

    def test_alike_spots_count_each(self):
        spots = sps((0, 0, 0), (1, 0, 0), (0, 1, 0), (0, 0, 3), (0, 0, 3))
        self.assertEqual(self.held_to(spots, row(1, 1)), [row(3, -3, -3)])
        self.assertEqual(self.held_to(spots[:4], row(1, 1)), [row(0, 0, 0), row(3, -3, -3)])

    def test_sorted_as_numbers(self):
        spots = sps((0, 0, "1/3"), (0, 0, "1/2"), (1, 0, 0), (0, 1, 0), (0, 0, "2/5"), (0, 0, "2/5", 9))
        told = [self.held_to(spots[:4], prices) for prices in (row(1, 1), row(1, 2), row(2, 1))]
        self.assertEqual([plane[0] for plane in told[0]], [q("1/3"), q("1/2")])

    def test_any(self):
        for spots, (up, down) in model_spots.wide_ones(1831, 4):
            self.held_to(spots, (up, down))
            self.held_to(spots, (down, up))

    def test_long_ones(self):
        chance = random.Random(1833)
        for many in (3, 4, 8):
            spots = samples.long_spots(chance, many)
            self.held_to(spots, (samples.thirty_weight(chance), samples.thirty_weight(chance)))

    def test_no_plane_costs_less_and_just_mixtures_of_the_corners_cost_as_little(self):
        chance = random.Random(1834)
        for spots, prices in model_spots.wide_ones(1835):
            told = plane_corners(spots, prices)
            least = num(least_plane_cost(spots, prices))
            inner = model_spots.mixed(told, samples.shares(chance, len(told)))
            self.assertEqual(model_spots.cost(spots, prices, inner), least)
            for plane in [samples.plane(chance)] + model_spots.planes(spots)[:5]:
                self.assertGreaterEqual(model_spots.cost(spots, prices, plane), least)
            for k in range(3):
                for by in (-LITTLE, LITTLE):
                    here = model_spots.cost(spots, prices, model_spots.beside(inner, k, by))
                    self.assertGreaterEqual(here, least)
                    self.assertTrue(here > least or len(told) > 1)

    def test_tilted_and_in_another_order(self):
        chance = random.Random(1836)
        for spots, prices in model_spots.wide_ones(1837, 1):
            told = plane_corners(spots, prices)
            height, along, across = map(num, samples.plane(chance))
            by = [(x, y, q(num(z) + height + along * num(x) + across * num(y)), w) for x, y, z, w in spots]
            wanted = [(q(num(a) + height), q(num(b) + along), q(num(c) + across)) for a, b, c in told]
            self.assertEqual(plane_corners(by, prices), wanted)
            self.assertEqual(least_plane_cost(by, prices), least_plane_cost(spots, prices))
            self.assertEqual(plane_corners(chance.sample(spots, len(spots)), prices), told)
            # Along and across the other way about.
            other = [(y, x, z, w) for x, y, z, w in spots]
            wanted = sorted((num(a), num(c), num(b)) for a, b, c in told)
            self.assertEqual(plane_corners(other, prices), [model.told(plane) for plane in wanted])


class LaidTwice(Case):

    def lots(self, seed):
        chance = random.Random(seed)
        for points in samples.spread_ones(seed + 1, 2, [2, 3, 4]):
            one, other = chance.choice([(q(0), q(1)), (q(1), q(0)), (q(-1, 2), q(7)), (q(3), q(5, 2))])
            prices = samples.some_prices(chance)
            yield points, prices, laid_twice(points, one, other)

    def test_they_cost_twice_as_much(self):
        for points, prices, spots in self.lots(1841):
            self.assertEqual(num(least_plane_cost(spots, prices)), 2 * num(least_cost(points, prices)))

    def test_the_planes_with_across_nought_among_the_best(self):
        for points, prices, spots in self.lots(1842):
            told = plane_corners(spots, prices)
            flat = [plane[:2] for plane in told if plane[2] == q(0)]
            self.assertEqual(flat, corners(points, prices))
            least = least_plane_cost(spots, prices)
            for line in pair_lines(points):
                here = plane_cost(spots, prices, line + (q(0),))
                self.assertEqual(here == least, is_best(points, prices, line))

    def test_long_ones(self):
        chance = random.Random(1843)
        points = [tuple(samples.thirty(chance) for _ in range(2)) + (q(k + 1, 3),) for k in range(4)]
        spots = laid_twice(points, samples.thirty(chance), samples.thirty(chance))
        self.assertEqual(num(least_plane_cost(spots, row(1, 2))), 2 * num(least_cost(points, row(1, 2))))


class Refusals(Case):

    def test_spots_on_one_straight_line(self):
        for spots in STRAIGHT:
            for ask in (plane_corners, least_plane_cost):
                self.refused("NoSpread", ask, spots, row(1, 1))
                self.refused("NoPrices", ask, spots, row(1, 0))
                self.refused("NoPrices", ask, spots, None)

    def test_one_to_eight_spots(self):
        for many in range(11):
            spots = sps(*[(k, k * k, 1) for k in range(many)])
            for ask in (plane_corners, least_plane_cost):
                if 3 <= many <= 8:
                    self.asked(ask, spots, row(1, 1))
                else:
                    self.refused("NoSpread" if 1 <= many < 3 else "NoSpots", ask, spots, row(1, 1))

    def test_no_spots(self):
        for wrong in wrongs.wrong_spots():
            for ask in (plane_corners, least_plane_cost):
                self.refused("NoSpots", ask, wrong, row(1, 1))
                self.refused("NoSpots", ask, wrong, None)
        self.refused("NoSpots", plane_corners, pts((0, 0), (1, 1), (2, 0)), row(1, 1))


class InItsPlace(Case):

    def test_the_very_list_changed_and_handed_in_again(self):
        spots = []
        for other, prices in model_spots.wide_ones(1851, 1):
            spots[:] = other
            told = plane_corners(spots, prices)
            kept = copy.deepcopy(told)
            spoilt(told)
            self.assertEqual(plane_corners(spots, prices), kept)
            spots[-1] = row(40, 7, 9, "1/2")
            if model_spots.is_wide(spots):
                least, wanted = model_spots.corners(spots, prices)
                self.assertEqual(plane_corners(spots, prices), wanted)
                self.assertEqual(least_plane_cost(spots, prices), q(least))
            spots[0] = row(1, 1, 1, 0)
            self.refused("NoSpots", plane_corners, spots, prices)


if __name__ == "__main__":
    unittest.main()
