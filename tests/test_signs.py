"""Point 9: signs, balanced signs, signs that fit a line, and their worth."""

import random
import unittest

from signlines.best import is_best, least_cost
from signlines.corners import corners
from signlines.lines import cost, mixed
from signlines.pairs import pair_lines
from signlines.signs import are_signs, fit, is_balanced, worth
from tests import model, samples, wrongs
from tests.helpers import Case, moved, num, pts, q, qs, row

LITTLE = q(1, 10 ** 40)


def fitting(points, prices):
    return model.signs(points, prices, model.corners(points, prices)[1][0])


class Signs(Case):

    POINTS = pts((0, 0, 2), (1, 5, "1/3"), (2, 1))
    PRICES = row("1/2", 3)

    def test_within_their_ends(self):
        for signs in (qs(0, 0, 0), qs(1, "1/6", "1/2"), qs(-6, -1, -3), qs(1, -1, 0), qs("1/7", "-1/7", "1/3")):
            self.told_truth(True, are_signs, self.POINTS, self.PRICES, signs)

    def test_beyond_an_end_at_any_place(self):
        high, low = qs(1, "1/6", "1/2"), qs(-6, -1, -3)
        for k in range(3):
            self.told_truth(False, are_signs, self.POINTS, self.PRICES, moved(high, k, LITTLE))
            self.told_truth(True, are_signs, self.POINTS, self.PRICES, moved(high, k, q(-num(LITTLE))))
            self.told_truth(False, are_signs, self.POINTS, self.PRICES, moved(low, k, q(-num(LITTLE))))
            self.told_truth(True, are_signs, self.POINTS, self.PRICES, moved(low, k, LITTLE))

    def test_what_are_no_signs(self):
        for wrong in wrongs.wrong_numbers_for(3):
            self.told_truth(False, are_signs, self.POINTS, self.PRICES, wrong)

    def test_any_ends(self):
        for points, (up, down) in samples.priced(101, 1):
            high = [q(num(up) * num(w)) for x, y, w in points]
            low = [q(-num(down) * num(w)) for x, y, w in points]
            for k in range(len(points)):
                for signs, truth in [(high, True), (low, True), (moved(high, k, LITTLE), False),
                                     (moved(low, k, q(-num(LITTLE))), False)]:
                    self.told_truth(truth, are_signs, points, (up, down), signs)


class Balanced(Case):

    POINTS = pts((0, 9), (1, 8, "1/5"), (2, 7, 3), (4, "1/2"))

    def test_known_ones(self):
        for numbers, truth in [((0, 0, 0, 0), True), ((1, -2, 1, 0), True), (("-1/2", 1, "-1/2", 0), True),
                               ((0, 2, -3, 1), True), ((500, -1000, 500, 0), True), ((1, -1, 0, 0), False),
                               ((1, -2, 1, "1/9"), False), ((1, 0, 0, 0), False), ((-4, 0, 2, -1), False),
                               ((3, -4, 1, 1), False), ((-1, -2, 1, 0), False), ((0, 1, "-1/2", 0), False)]:
            self.told_truth(truth, is_balanced, self.POINTS, qs(*numbers))

    def test_one_point(self):
        self.told_truth(True, is_balanced, pts((3, 4)), qs(0))
        self.told_truth(False, is_balanced, pts((3, 4)), qs(1))
        self.told_truth(False, is_balanced, pts((0, 4)), qs(1))
        self.told_truth(True, is_balanced, pts((3, 4), (3, 5)), qs(1, -1))

    def test_what_is_no_list_of_as_many_fractions(self):
        for wrong in wrongs.wrong_numbers_for(4):
            self.told_truth(False, is_balanced, self.POINTS, wrong)

    def test_signs_of_best_lines_moved_at_any_place(self):
        for points, prices in samples.priced(102, 1):
            signs = fitting(points, prices)
            self.told_truth(True, is_balanced, points, signs)
            for k in range(len(points)):
                self.told_truth(False, is_balanced, points, moved(signs, k, LITTLE))
                other = (k + 1) % len(points)
                exchanged = moved(moved(signs, k, q(1)), other, q(-1))
                self.told_truth(points[k][0] == points[other][0], is_balanced, points, exchanged)


class Worth(Case):

    def test_known_ones(self):
        points = pts((0, 9), (1, 8, "1/5"), (2, "1/2", 3))
        self.assertEqual(self.asked(worth, points, qs(1, -2, 1)), q(-13, 2))
        self.assertEqual(self.asked(worth, points, qs(0, 0, 0)), q(0))
        self.assertEqual(self.asked(worth, points, qs(100, "1/8", 0)), q(901))
        self.assertEqual(self.asked(worth, pts((3, "-1/3")), qs(7)), q(-7, 3))

    def test_any_numbers(self):
        chance = random.Random(103)
        for points, prices in samples.priced(104, 1):
            numbers = [samples.long_number(chance) for _ in points]
            wanted = sum(num(one) * num(point[1]) for one, point in zip(numbers, points))
            self.assertEqual(self.asked(worth, points, numbers), q(wanted))

    def test_no_shares(self):
        for many in (1, 2, 3, 12):
            points = pts(*[(k, k) for k in range(many)])
            for wrong in wrongs.wrong_numbers_for(many):
                self.refused("NoShares", worth, points, wrong)
        self.refused("NoPoints", worth, [], [])


class Fit(Case):

    def test_known_ones(self):
        points = pts((0, 0), (1, 0), (2, 0), (1, 5))
        prices, flat = row(1, 1), row(0, 0)
        for numbers, truth in [(("-1/2", 0, "-1/2", 1), True), ((0, -1, 0, 1), True), ((-1, 1, -1, 1), True),
                               (("-1/4", "-1/2", "-1/4", 1), True), ((0, 0, 0, 0), False),
                               (("1/2", 0, "1/2", -1), False),
                               (("1/2", -2, "1/2", 1), False), ((-1, 0, 0, 1), False),
                               ((-1, "6/5", "-6/5", 1), False), (("-1/4", 0, "-1/4", "1/2"), False)]:
            self.told_truth(truth, fit, points, prices, flat, qs(*numbers))

    def test_ends_above_and_beneath(self):
        points, signs = pts((0, 3, 2), (1, -5, 3), (2, 7)), qs(2, -4, 2)
        right, dear = row(2, "4/3"), row(3, "4/3")
        for prices, line, truth in [
            (right, row(3, 2), True), (right, row(3, 1), True), (right, row(3, -8), True), (right, row(3, 3), False),
            (right, row(3, -9), False), (right, row(2, 1), False), (right, row(4, 1), False),
            (dear, row(3, 2), True), (dear, row(3, 1), False), (row("1/2", "4/3"), row(3, 2), False),
            (row(2, 1), row(3, 2), False), (row(2, 2), row(3, 2), False), (row(2, 2), row(3, -8), True),
        ]:
            self.told_truth(truth, fit, points, prices, line, signs)

    def test_points_on_the_line_lie_within_their_ends(self):
        points = pts((0, 0), (1, 0), (2, 0), (3, 0))
        prices = row(1, 2)
        for numbers, truth in [((1, -2, 1, 0), True), ((0, 1, -2, 1), True), ((1, -1, -1, 1), True),
                               ((0, 0, 0, 0), True), (("11/10", "-11/5", "11/10", 0), False),
                               (("-3/2", 3, "-3/2", 0), False)]:
            self.told_truth(truth, fit, points, prices, row(0, 0), qs(*numbers))

    def test_points_of_one_x_and_one_point(self):
        for line, truth in [(row(4, 0), True), (row(1, 1), True), (row(3, 0), False), (row(5, 0), False)]:
            self.told_truth(truth, fit, pts((3, 4)), row(1, 2), line, qs(0))
        column = pts((3, 4), (3, 5), (3, 6))
        self.told_truth(True, fit, column, row(1, 1), row(5, 0), qs(-1, 0, 1))
        self.told_truth(False, fit, column, row(1, 1), row("9/2", 0), qs(-1, 0, 1))
        self.told_truth(False, fit, column, row(1, 1), row(5, 0), qs(1, 0, -1))

    def test_what_are_no_signs_fit_nothing(self):
        points = pts((0, 0), (1, 0), (2, 0))
        for wrong in wrongs.wrong_numbers_for(3):
            self.told_truth(False, fit, points, row(1, 1), row(0, 0), wrong)

    def test_they_fit_each_best_line_and_no_other(self):
        chance = random.Random(105)
        for points, prices in samples.priced(106):
            signs = fitting(points, prices)
            self.told_truth(True, are_signs, points, prices, signs)
            found = corners(points, prices)
            lines = found + [mixed(found, samples.shares(chance, len(found)))]
            for line in lines + pair_lines(points)[:15] + [samples.small_line(chance)]:
                self.told_truth(is_best(points, prices, line), fit, points, prices, line, signs)

    def test_their_worth_is_the_least_cost(self):
        for points, prices in samples.priced(107):
            self.assertEqual(worth(points, fitting(points, prices)), least_cost(points, prices))

    def test_the_worth_of_balanced_signs_is_the_cost_just_where_they_fit(self):
        chance = random.Random(108)
        for points, prices in samples.priced(109, 2):
            signs = fitting(points, prices)
            half = [q(num(sign) / 2) for sign in signs]
            for told in (signs, half, [q(0)] * len(points)):
                for line in corners(points, prices)[:3] + [samples.small_line(chance)]:
                    its_cost, its_worth = num(cost(points, prices, line)), num(worth(points, told))
                    self.assertLessEqual(its_worth, its_cost)
                    self.told_truth(its_worth == its_cost, fit, points, prices, line, told)

    def test_a_sign_moved_at_any_place_fits_no_more(self):
        for points, prices in samples.priced(110, 1):
            signs = fitting(points, prices)
            line = corners(points, prices)[0]
            for k in range(len(points)):
                self.told_truth(False, fit, points, prices, line, moved(signs, k, LITTLE))
                self.told_truth(False, fit, points, prices, line, moved(signs, k, q(-num(LITTLE))))


if __name__ == "__main__":
    unittest.main()
