"""Points 5 and 6: what are points, prices and lines, and points that are moved."""

import random
import unittest

from signlines.points import is_line, is_points, is_prices, is_spread, stretched, tilted
from tests import samples, wrongs
from tests.helpers import Case, num, pts, q, row


def many_points():
    found = samples.spread_ones(11, 1, [2, 5, 12]) + samples.long_spread(12, [2, 12])
    return found + [pts((3, 4, "1/2")), pts((0, 0), (0, 0)), pts((1, 2), (1, 3), (1, 2))]


class WhatTheyAre(Case):

    def test_points(self):
        for points in many_points():
            self.told_truth(True, is_points, points)

    def test_one_to_twelve_points(self):
        for many in range(0, 16):
            self.told_truth(1 <= many <= 12, is_points, [row(many, 1, 1) for _ in range(many)])
            self.told_truth(1 <= many <= 12, is_points, [row(k, k * k, k + 1) for k in range(many)])

    def test_no_points(self):
        for wrong in wrongs.wrong_points():
            self.told_truth(False, is_points, wrong)

    def test_the_weight_is_above_nought(self):
        for weight, truth in [(q(1, 10 ** 59), True), (q(0), False), (q(-1, 10 ** 59), False), (q(-1), False)]:
            for at in range(3):
                points = wrongs.with_part(pts((0, 0), (1, 1), (2, 2)), at, (q(0), q(0), weight))
                self.told_truth(truth, is_points, points)

    def test_places_may_be_nought_and_below(self):
        self.told_truth(True, is_points, pts((0, 0), (-1, "-1/2"), ("-7/3", 0)))

    def test_prices(self):
        for up, down in [(1, 1), ("1/2", 3), (10 ** 59, "1/7")]:
            self.told_truth(True, is_prices, row(up, down))
        for wrong in wrongs.wrong_prices():
            self.told_truth(False, is_prices, wrong)

    def test_lines(self):
        for height, slope in [(0, 0), (1, -1), ("-1/2", 10 ** 59), (-3, "2/7")]:
            self.told_truth(True, is_line, row(height, slope))
        for wrong in wrongs.wrong_lines():
            self.told_truth(False, is_line, wrong)


class Spread(Case):

    def test_two_unlike_x_wherever_they_stand(self):
        for at in range(4):
            points = wrongs.with_part(pts((1, 0), (1, 1), (1, 2), (1, 3)), at, row(2, 0, 1))
            self.told_truth(True, is_spread, points)
        self.told_truth(True, is_spread, pts((0, 5), ("1/2", 5)))
        self.told_truth(True, is_spread, pts((1, 5), ("1/2", 5)))

    def test_one_x(self):
        for points in [pts((3, 4)), pts((1, 2), (1, 2)), pts((1, 2), (1, 3)), pts((0, 2), (0, 3), (0, 5)) * 4]:
            self.told_truth(False, is_spread, points)

    def test_any(self):
        for points in many_points():
            self.told_truth(len({point[0] for point in points}) > 1, is_spread, points)


class Moved(Case):

    def test_tilted(self):
        points = pts((0, 0, 2), (1, "1/2"), (-2, 5, "1/3"))
        self.assertEqual(self.asked(tilted, points, row(1, "1/2")), pts((0, 1, 2), (1, 2), (-2, 5, "1/3")))
        self.assertEqual(self.asked(tilted, points, row(0, 0)), points)
        self.assertEqual(self.asked(tilted, pts((3, 4)), row(-1, -2)), pts((3, -3)))

    def test_tilted_by_any_line(self):
        chance = random.Random(6)
        for points in many_points():
            for line in (samples.small_line(chance), samples.long_line(chance)):
                h, s = num(line[0]), num(line[1])
                wanted = [(x, q(num(y) + h + s * num(x)), w) for x, y, w in points]
                self.assertEqual(self.asked(tilted, points, line), wanted)

    def test_stretched(self):
        points = pts((0, 0, 2), (1, "1/2"), (-2, 5, "1/3"))
        wanted = pts((0, 0, 2), ("-1/2", "3/2"), (1, 15, "1/3"))
        self.assertEqual(self.asked(stretched, points, q(-1, 2), q(3)), wanted)
        self.assertEqual(self.asked(stretched, points, q(1), q(1)), points)
        self.assertEqual(self.asked(stretched, points, q(1), q(-1)), pts((0, 0, 2), (1, "-1/2"), (-2, -5, "1/3")))

    def test_stretched_by_any(self):
        chance = random.Random(7)
        for points in many_points():
            for across, tall in [(q(2), q(-3)), (q(-1, 2), q(1)), (samples.long_weight(chance), q(-5, 3))]:
                wanted = [(q(num(x) * num(across)), q(num(y) * num(tall)), w) for x, y, w in points]
                self.assertEqual(self.asked(stretched, points, across, tall), wanted)

    def test_nothing_is_stretched_by_nought(self):
        points = pts((0, 0), (1, 1))
        self.refused("NoFraction", stretched, points, q(0), q(1))
        self.refused("NoFraction", stretched, points, q(1), q(0))
        self.refused("NoFraction", stretched, points, q(0), q(0))
        self.refused("NoPoints", stretched, [], q(0), q(0))


if __name__ == "__main__":
    unittest.main()
