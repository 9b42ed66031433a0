"""Points 3, 7 and 8: the least cost, best lines, and points that are moved."""

import copy
import random
import unittest

from signlines.best import best_line, is_best, least_cost
from signlines.corners import corners
from signlines.lines import cost, mixed, rises, sides, stands, stretched_line, tilted_line
from signlines.pairs import pair_lines
from signlines.points import stretched, tilted
from tests import model, samples, wrongs
from tests.helpers import Case, num, pts, q, row


def near(line, chance):
    """The line a little moved, by height, slope or both."""
    little = q(1, 10 ** 30)
    by = chance.choice([(little, q(0)), (q(0), little), (q(-1, 10 ** 30), q(0)), (q(0), q(-1, 10 ** 30))])
    return tilted_line(line, by)


def told_of(points, prices):
    return least_cost(points, prices), corners(points, prices)


class Least(Case):

    def test_known_ones(self):
        square = pts((0, 0), (0, 2), (1, 0), (1, 2))
        self.assertEqual(self.asked(least_cost, square, row(1, 1)), q(4))
        self.assertEqual(self.asked(best_line, square, row(1, 1)), row(0, 0))
        self.assertEqual(self.asked(best_line, square, row(1, 2)), row(0, 0))
        self.assertEqual(self.asked(least_cost, square, row(1, 2)), q(4))
        self.assertEqual(self.asked(best_line, square, row(2, 1)), row(2, 0))
        self.assertEqual(self.asked(least_cost, square, row(2, 1)), q(4))
        points = pts((0, 0), (1, 1), (2, 2), (3, 9, "1/2"))
        self.assertEqual(self.asked(best_line, points, row(1, 1)), row(0, 1))
        self.assertEqual(self.asked(least_cost, points, row(1, 1)), q(3))
        self.assertEqual(self.asked(least_cost, points, row("1/3", 1)), q(1))

    def test_two_points_cost_nothing(self):
        for points in (pts((0, 5), (3, "-1/2", 9)), pts(("1/2", 1, "1/9"), ("1/3", 1))):
            self.assertEqual(self.asked(least_cost, points, row(3, "1/2")), q(0))
            self.assertEqual([self.asked(best_line, points, row(3, "1/2"))], pair_lines(points))

    def test_the_first_of_all_pair_lines_that_cost_least(self):
        for points, prices in samples.priced(61):
            least, found = model.corners(points, prices)
            self.assertEqual(self.asked(least_cost, points, prices), q(least))
            self.assertEqual(self.asked(best_line, points, prices), found[0])

    def test_no_line_costs_less(self):
        chance = random.Random(64)
        for points, prices in samples.priced(65):
            least = num(least_cost(points, prices))
            self.assertEqual(num(cost(points, prices, best_line(points, prices))), least)
            lines = [samples.small_line(chance) for _ in range(10)] + pair_lines(points)[:20]
            for line in lines + [near(line, chance) for line in corners(points, prices)]:
                self.assertLessEqual(least, num(cost(points, prices, line)))


class IsBest(Case):

    def test_best_just_where_none_costs_less(self):
        chance = random.Random(71)
        for points, prices in samples.priced(72, 2):
            least = least_cost(points, prices)
            lines = pair_lines(points) + [samples.small_line(chance) for _ in range(4)]
            for line in lines[:25] + [near(line, chance) for line in corners(points, prices)]:
                self.told_truth(cost(points, prices, line) == least, is_best, points, prices, line)

    def test_lines_between_and_beyond(self):
        points = pts((0, 0), (1, 2), (0, 2), (1, 0))
        for line, truth in [(row(0, 0), True), (row(1, 0), True), (row(0, 2), True), (row(2, -2), True),
                            (row(2, 0), True), (row("1/3", "1/2"), True), (row(0, -1), False), (row(3, 0), False),
                            (row(0, "201/100"), False), (row("-1/100", 0), False), (row(2, "1/100"), False)]:
            self.told_truth(truth, is_best, points, row(1, 1), line)

    def test_mixtures_of_best_lines_are_best(self):
        chance = random.Random(73)
        for points, prices in samples.priced(74):
            found = corners(points, prices)
            self.told_truth(True, is_best, points, prices, mixed(found, samples.shares(chance, len(found))))

    def test_what_is_no_line_is_told_not_to_be_best(self):
        for points in (pts((0, 0), (1, 0)), pts((0, 0), (1, 0), (2, 3))):
            for wrong in wrongs.wrong_lines():
                self.told_truth(False, is_best, points, row(1, 1), wrong)

    def test_no_spread_even_of_what_is_no_line(self):
        for thing in (None, row(0, 0), row(1, 2, 3), True):
            self.refused("NoSpread", is_best, pts((1, 0), (1, 0)), row(1, 1), thing)
            self.refused("NoPrices", is_best, pts((1, 0), (1, 0)), row(1, 0), thing)
            self.refused("NoPoints", is_best, pts((1, 0), (1, 0, 0)), row(1, 0), thing)


class WhatHoldsOfBestLines(Case):

    def test_weights_of_the_sides(self):
        for points, (up, down) in samples.priced(81):
            for line in corners(points, (up, down)):
                above, on, beneath = map(num, sides(points, line))
                self.assertLessEqual(num(up) * above, num(down) * (on + beneath))
                self.assertLessEqual(num(down) * beneath, num(up) * (on + above))

    def test_points_in_another_order(self):
        chance = random.Random(82)
        for points, prices in samples.priced(83):
            other = chance.sample(points, len(points))
            self.assertEqual(told_of(other, prices), told_of(points, prices))

    def test_a_point_parted_in_two(self):
        for points, prices in samples.priced(84, counts=(2, 3, 4, 7, 11)):
            for k in sorted({0, len(points) // 2, len(points) - 1}):
                x, y, weight = points[k]
                half = (x, y, q(num(weight) / 2))
                parted = points[:k] + [half] + points[k + 1:] + [half]
                self.assertEqual(told_of(parted, prices), told_of(points, prices))

    def test_both_prices_doubled_and_weights_times_as_much(self):
        for points, (up, down) in samples.priced(85):
            least, found = told_of(points, (up, down))
            doubled = (q(2 * num(up)), q(2 * num(down)))
            self.assertEqual(told_of(points, doubled), (q(2 * num(least)), found))
            heavy = [(x, y, q(num(weight) * 7 / 3)) for x, y, weight in points]
            self.assertEqual(told_of(heavy, (up, down)), (q(num(least) * 7 / 3), found))

    def test_tilted_points(self):
        chance = random.Random(86)
        for points, prices in samples.priced(87):
            by = samples.small_line(chance)
            least, found = told_of(points, prices)
            moved_least, moved = told_of(tilted(points, by), prices)
            self.assertEqual(moved_least, least)
            self.assertCountEqual(moved, [tilted_line(line, by) for line in found])

    def test_stretched_points(self):
        for points, (up, down) in samples.priced(88):
            least, found = told_of(points, (up, down))
            for across, tall in [(q(3, 2), q(5)), (q(-2), q(1, 3)), (q(1, 2), q(-3)), (q(-1), q(-1))]:
                prices = (up, down) if tall[0] > 0 else (down, up)
                moved_least, moved = told_of(stretched(points, across, tall), prices)
                self.assertEqual(moved_least, q(num(least) * abs(num(tall))))
                self.assertCountEqual(moved, [stretched_line(line, across, tall) for line in found])

    def test_a_point_moved_farther_on_its_own_side_or_put_on_the_line(self):
        chance = random.Random(89)
        for points, prices in samples.priced(90, 2):
            line = chance.choice(corners(points, prices))
            for k, rise in enumerate(rises(points, line)):
                x, y, weight = points[k]
                farther = q(num(y) + (5 if rise[0] > 0 else -5 if rise[0] < 0 else 0))
                for moved in (farther, stands(line, x)):
                    other = points[:k] + [(x, moved, weight)] + points[k + 1:]
                    self.told_truth(True, is_best, other, prices, line)

    def test_one_more_point_put_on_the_line(self):
        chance = random.Random(91)
        for points, prices in samples.priced(92, 2, (2, 4, 11)):
            line = best_line(points, prices)
            x = samples.small(chance)
            more = points + [(x, stands(line, x), samples.weight(chance))]
            self.told_truth(True, is_best, more, prices, line)
            self.assertEqual(least_cost(more, prices), least_cost(points, prices))


class InItsPlace(Case):

    def test_the_very_list_changed_and_handed_in_again(self):
        chance = random.Random(93)
        cases = samples.priced(94, 1)
        points = []
        for other, prices in cases:
            points[:] = other
            self.assertEqual(told_of(points, prices), told_of(copy.deepcopy(other), prices))
            points[chance.randrange(len(points))] = (samples.small(chance), q(50), q(3))
            if samples.is_spread(points):
                least, found = model.corners(points, prices)
                self.assertEqual(told_of(points, prices), (q(least), found))
            points.append(row(7, 7, 7))
            if len(points) == 13:
                self.refused("NoPoints", least_cost, points, prices)


if __name__ == "__main__":
    unittest.main()
