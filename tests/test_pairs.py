"""Point 7: lines through two points."""

import random
import unittest

from signlines.lines import stands
from signlines.pairs import pair_lines, through
from tests import model, samples, wrongs
from tests.helpers import Case, num, pts, q, row


class Through(Case):

    def test_known_ones(self):
        self.assertEqual(self.asked(through, row(0, 1, 1), row(1, 3, 1)), row(1, 2))
        self.assertEqual(self.asked(through, row(1, 3, 1), row(0, 1, 1)), row(1, 2))
        self.assertEqual(self.asked(through, row("1/2", 2, 5), row(-1, "1/3", "1/7")), row("13/9", "10/9"))
        self.assertEqual(self.asked(through, row(3, 4, 1), row(7, 4, 1)), row(4, 0))

    def test_none_where_their_x_are_alike(self):
        for other in (row(2, 3, 1), row(2, 3, 5), row(2, -7, 1)):
            self.assertIsNone(self.asked(through, row(2, 3, 1), other))

    def test_any_two(self):
        chance = random.Random(51)
        for make, weight in [(samples.small, samples.weight), (samples.long_number, samples.long_weight)]:
            for _ in range(30):
                one = (make(chance), make(chance), weight(chance))
                other = (make(chance), make(chance), weight(chance))
                line = self.asked(through, one, other)
                if one[0] == other[0]:
                    self.assertIsNone(line)
                else:
                    self.assertEqual([stands(line, x) for x, y, w in (one, other)], [one[1], other[1]])

    def test_no_points(self):
        for wrong in wrongs.wrong_point():
            self.refused("NoPoints", through, wrong, row(1, 1, 1))
            self.refused("NoPoints", through, row(1, 1, 1), wrong)
            self.refused("NoPoints", through, wrong, wrong)


class PairLines(Case):

    def test_known_ones(self):
        self.assertEqual(self.asked(pair_lines, pts((0, 0), (1, 1))), [row(0, 1)])
        self.assertEqual(self.asked(pair_lines, pts((0, 0), (1, 1), (2, 2), (5, 5, 7))), [row(0, 1)])
        self.assertEqual(self.asked(pair_lines, pts((0, 0), (1, 1), (1, 1), (0, 0))), [row(0, 1)])
        told = self.asked(pair_lines, pts((0, 0), (1, 0), (1, 2), (2, 0)))
        self.assertEqual(told, [row(0, 0), row(0, 2), row(4, -2)])

    def test_sorted_as_numbers_by_height_and_then_by_slope(self):
        points = pts((0, "1/3"), (0, "1/2"), (1, "5/2"), (1, "-7/3"), (1, 11))
        wanted = [row("1/3", "-8/3"), row("1/3", "13/6"), row("1/3", "32/3"),
                  row("1/2", "-17/6"), row("1/2", 2), row("1/2", "21/2")]
        self.assertEqual(self.asked(pair_lines, points), wanted)

    def test_all_twos_are_gone_through(self):
        for points in samples.spread_ones(52, 6, [2, 3, 5, 8, 12]) + samples.long_spread(53, [2, 3, 5, 12]):
            self.assertEqual(self.asked(pair_lines, points), model.pair_lines(points))

    def test_twelve_points_of_unlike_lines(self):
        points = pts(*[(k, k ** 3) for k in range(12)])
        told = self.asked(pair_lines, points)
        self.assertEqual(len(told), 66)
        self.assertEqual(told, model.pair_lines(points))

    def test_each_once_and_the_points_order_has_no_part(self):
        chance = random.Random(54)
        for points in samples.spread_ones(55, 2, [3, 6, 12]):
            told = self.asked(pair_lines, points)
            self.assertEqual(len(set(told)), len(told))
            self.assertEqual(told, sorted(told, key=lambda line: (num(line[0]), num(line[1]))))
            self.assertEqual(pair_lines(chance.sample(points, len(points))), told)

    def test_one_x(self):
        for points in [pts((1, 1)), pts((1, 1), (1, 1)), pts((1, 1), (1, 2), (1, 3)) * 4]:
            self.refused("NoSpread", pair_lines, points)


if __name__ == "__main__":
    unittest.main()
