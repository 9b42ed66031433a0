"""Point 15: lines through a told place, the slopes that cost least, and pinned signs."""

import copy
import random
import unittest
from fractions import Fraction

from signlines.best import least_cost
from signlines.corners import heights
from signlines.lines import stands
from signlines.pinned import pinned_fit, pinned_signs, pinned_slopes
from signlines.points import stretched, tilted
from tests import model_moving, samples, wrongs
from tests.helpers import Case, moved, num, pts, q, qs, row, spoilt

LITTLE = q(1, 10 ** 40)


def is_pinned_spread(points, place):
    return any(point[0] != place[0] for point in points)


def placed(seed, each=1, counts=(1, 2, 3, 5, 12)):
    """Points, spread and not, with prices and places of which some point has another x."""
    chance = random.Random(seed)
    found = []
    for make in samples.MAKERS:
        for many in counts:
            for _ in range(each):
                points = make(chance, many)
                for place in samples.places(chance, points):
                    if is_pinned_spread(points, place):
                        found.append((points, samples.some_prices(chance), place))
    for many in (1, 2, 3, 12):
        points = samples.long_ones(chance, many)
        for place in [samples.long_place(chance), (points[-1][0], points[-1][1]), (points[0][0], q(7))]:
            if is_pinned_spread(points, place):
                found.append((points, samples.long_prices(chance), place))
    return found


class Slopes(Case):

    def test_known_ones(self):
        points = pts((1, 1), (2, 4), (-1, 3), (4, 4, 2))
        for prices, place, told in [
            (row(1, 1), row(0, 0), (1, 1)), (row(8, 1), row(0, 0), (1, 1)), (row(9, 1), row(0, 0), (1, 2)),
            (row(10, 1), row(0, 0), (2, 2)), (row(1, 9), row(0, 0), (1, 1)), (row(1, 1), row(3, 4), ("1/4", "1/4")),
        ]:
            self.assertEqual(self.asked(pinned_slopes, points, prices, place), (q(told[0]), q(told[1])))
            wanted = model_moving.pinned_slopes(points, prices, place)[1:]
            self.assertEqual(wanted, (Fraction(told[0]), Fraction(told[1])))

    def test_a_piece_of_slopes(self):
        self.assertEqual(self.asked(pinned_slopes, pts((1, 1), (1, 3)), row(1, 1), row(0, 0)), (q(1), q(3)))
        self.assertEqual(self.asked(pinned_slopes, pts((1, 1), (1, 3)), row(1, 2), row(0, 0)), (q(1), q(1)))
        self.assertEqual(self.asked(pinned_slopes, pts((1, 1), (1, 3)), row(2, 1), row(0, 0)), (q(3), q(3)))
        self.assertEqual(self.asked(pinned_slopes, pts((1, 1), (1, 3, 2)), row(1, 2), row(0, 0)), (q(1), q(3)))
        self.assertEqual(self.asked(pinned_slopes, pts((-1, 1), (-1, 3)), row(1, 1), row(0, 0)), (q(-3), q(-1)))
        self.assertEqual(self.asked(pinned_slopes, pts((-1, 1), (1, 3)), row(1, 1), row(0, 0)), (q(-1), q(3)))
        self.assertEqual(self.asked(pinned_slopes, pts((2, 1), (-1, 3), (-1, 5)), row(1, 1), row(0, 0)),
                         (q(-3), q(1, 2)))

    def test_farther_points_weigh_more(self):
        points = pts((1, 1), (1, 1), (3, 0))
        self.assertEqual(self.asked(pinned_slopes, points, row(1, 1), row(0, 0)), (q(0), q(0)))
        points = pts((1, 1), (1, 1), (2, 0))
        self.assertEqual(self.asked(pinned_slopes, points, row(1, 1), row(0, 0)), (q(0), q(1)))

    def test_one_point_and_points_of_one_x(self):
        self.assertEqual(self.asked(pinned_slopes, pts((3, 5)), row(1, 2), row(1, 1)), (q(2), q(2)))
        self.assertEqual(self.asked(pinned_slopes, pts((3, 5), (3, 5)), row(1, 2), row(1, 1)), (q(2), q(2)))
        self.assertEqual(self.asked(pinned_slopes, pts((3, 5), (3, 7, 9)), row(1, 2), row(1, 1)), (q(3), q(3)))

    def test_a_place_that_is_a_point_or_has_a_points_x(self):
        points = pts((0, 0, 50), (0, 9, 50), (1, 1), (2, 4))
        for place in (row(0, 0), row(0, 9), row(0, 3)):
            least, low, high = model_moving.pinned_slopes(points, row(1, 1), place)
            self.assertEqual(self.asked(pinned_slopes, points, row(1, 1), place), (q(low), q(high)))
        self.assertEqual(self.asked(pinned_slopes, points, row(1, 1), row(0, 0)), (q(2), q(2)))
        self.assertEqual(self.asked(pinned_slopes, pts((0, 0, 50), (1, 1)), row(1, 1), row(0, 0)), (q(1), q(1)))

    def test_all_slopes_from_the_place_to_a_point(self):
        for points, prices, place in placed(1501, 3):
            least, low, high = model_moving.pinned_slopes(points, prices, place)
            self.assertEqual(self.asked(pinned_slopes, points, prices, place), (q(low), q(high)))

    def test_no_pinned_line_costs_less_and_none_beyond_costs_as_little(self):
        chance = random.Random(1502)
        for points, prices, place in placed(1503):
            low, high = map(num, pinned_slopes(points, prices, place))
            least = model_moving.pinned_cost(points, prices, place, low)
            for part in (Fraction(0), Fraction(1, 3), Fraction(1)):
                self.assertEqual(model_moving.pinned_cost(points, prices, place, low + (high - low) * part), least)
            for slope in (low - num(LITTLE), high + num(LITTLE), low - 5, high + 5):
                self.assertGreater(model_moving.pinned_cost(points, prices, place, slope), least)
            slope = num(samples.small(chance))
            self.assertGreaterEqual(model_moving.pinned_cost(points, prices, place, slope), least)

    def test_they_cost_as_little_as_any_line_just_where_a_best_line_goes_through_the_place(self):
        chance = random.Random(1504)
        for points, prices in samples.priced(1505, 2, (2, 3, 5)):
            x = samples.small(chance)
            low, high = map(num, heights(points, prices, x))
            for y, truth in [(low, True), (high, True), ((low + high) / 2, True), (low - 1, False), (high + 1, False)]:
                place = (x, q(y))
                if is_pinned_spread(points, place):
                    slope = num(pinned_slopes(points, prices, place)[0])
                    cost = model_moving.pinned_cost(points, prices, place, slope)
                    self.assertEqual(cost == num(least_cost(points, prices)), truth)

    def test_tilted_and_stretched(self):
        chance = random.Random(1506)
        for points, (up, down), place in placed(1507, 1, (2, 5)):
            low, high = map(num, pinned_slopes(points, (up, down), place))
            by = samples.small_line(chance)
            along = (place[0], q(num(place[1]) + num(stands(by, place[0]))))
            told = self.asked(pinned_slopes, tilted(points, by), (up, down), along)
            self.assertEqual(told, (q(low + num(by[1])), q(high + num(by[1]))))
            for across, tall in [(q(3, 2), q(5)), (q(-2), q(1, 3)), (q(1, 2), q(-3)), (q(-1), q(-1))]:
                prices = (up, down) if tall[0] > 0 else (down, up)
                there = (q(num(place[0]) * num(across)), q(num(place[1]) * num(tall)))
                wanted = sorted(slope * num(tall) / num(across) for slope in (low, high))
                told = self.asked(pinned_slopes, stretched(points, across, tall), prices, there)
                self.assertEqual(told, tuple(map(q, wanted)))

    def test_in_another_order(self):
        chance = random.Random(1508)
        for points, prices, place in placed(1509, 1, (3, 12)):
            other = chance.sample(points, len(points))
            self.assertEqual(pinned_slopes(other, prices, place), pinned_slopes(points, prices, place))


class Signs(Case):

    def held_to(self, points, prices, place):
        """Told pinned signs, held against the document's words."""
        told = self.asked(pinned_signs, points, prices, place)
        self.assertIsInstance(told, list)
        self.assertEqual(told, [q(num(sign)) for sign in told])
        self.assertEqual(len(told), len(points))
        least, low, high = model_moving.pinned_slopes(points, prices, place)
        for slope in (low, high, (low + high) / 2):
            self.assertTrue(model_moving.pinned_fit(points, prices, place, slope, told), (points, prices, place))
            self.told_truth(True, pinned_fit, points, prices, place, q(slope), told)
        self.assertEqual(model_moving.pinned_worth(points, place, told), least)
        return told

    def test_at_their_very_ends(self):
        self.assertEqual(self.held_to(pts((1, 1), (1, 3)), row(1, 1), row(0, 0)), qs(-1, 1))
        self.assertEqual(self.held_to(pts((1, 1), (1, 3, "1/2")), row(2, 1), row(0, 0)), qs(-1, 1))
        self.assertEqual(self.held_to(pts((-1, 1), (1, 3)), row("1/2", 1), row(0, 0)), qs("1/2", "1/2"))
        self.assertEqual(self.held_to(pts((1, 1), (2, 0)), row(2, 1), row(0, 0)), qs(2, -1))
        self.assertEqual(self.held_to(pts((1, 1), (1, 1), (2, 0)), row(1, 1), row(0, 0)), qs(1, 1, -1))

    def test_on_the_line_between_their_ends(self):
        self.assertEqual(self.held_to(pts((3, 5)), row(1, 2), row(1, 1)), qs(0))
        self.assertEqual(self.held_to(pts((1, 1), (2, 7)), row(1, 1), row(0, 0)), qs(-1, "1/2"))
        self.assertEqual(self.held_to(pts((1, 1), (-2, 7)), row(1, 1), row(0, 0)), qs(1, "1/2"))
        self.held_to(pts((1, 1), (2, 2), (-3, -3)), row(1, 2), row(0, 0))

    def test_points_at_the_places_x(self):
        told = self.held_to(pts((0, 5, 2), (1, 1), (0, -3, "1/2")), row(3, 4), row(0, 0))
        self.assertEqual(told, qs(6, 0, -2))
        self.held_to(pts((0, 0, 9), (1, 1), (1, 3)), row(3, 4), row(0, 0))

    def test_any(self):
        for points, prices, place in placed(1511, 2):
            self.held_to(points, prices, place)

    def test_their_worth_is_no_more_than_the_cost_of_any_pinned_line(self):
        chance = random.Random(1512)
        for points, prices, place in placed(1513, 1, (2, 4)):
            signs = pinned_signs(points, prices, place)
            half = [q(num(sign) / 2) for sign in signs]
            for told in (signs, half):
                its_worth = model_moving.pinned_worth(points, place, told)
                for slope in model_moving.slopes_from(points, place) + [num(samples.small(chance))]:
                    cost = model_moving.pinned_cost(points, prices, place, slope)
                    self.assertLessEqual(its_worth, cost)
                    self.told_truth(its_worth == cost, pinned_fit, points, prices, place, q(slope), told)


class Fit(Case):

    def test_known_ones(self):
        points, prices, place = pts((1, 1), (2, 2, 3), (3, 0), (-1, 5)), row(1, 2), row(0, 0)
        for numbers, slope, truth in [
            ((0, "3/2", -2, 1), 1, False), ((0, "7/2", -2, 1), 1, False), ((1, 3, -2, 1), 1, True),
            ((1, 3, -2, 1), "1/2", True), ((1, 3, -2, 1), 0, True), ((1, 3, -2, 1), "-1/9", False),
            ((1, 3, -2, 1), "10/9", False), ((1, 3, -2, 1), 2, False), ((1, 3, "-5/3", 2), 1, False),
            ((0, 0, 0, 0), 1, False), ((-1, -3, 2, -1), 1, False),
        ]:
            signs = qs(*numbers)
            self.assertEqual(model_moving.pinned_fit(points, prices, place, Fraction(slope), signs), truth)
            self.told_truth(truth, pinned_fit, points, prices, place, q(slope), signs)

    def test_they_need_not_come_to_nought(self):
        points = pts((1, 5), (-1, 5))
        self.told_truth(True, pinned_fit, points, row(1, 1), row(0, 0), q(0), qs(1, 1))
        self.told_truth(True, pinned_fit, points, row(1, 1), row(0, 0), q(5), qs(1, 1))
        self.told_truth(False, pinned_fit, points, row(1, 1), row(0, 0), q(6), qs(1, 1))
        self.told_truth(False, pinned_fit, points, row(1, 1), row(0, 0), q(0), qs(1, -1))
        self.told_truth(False, pinned_fit, points, row(1, 1), row(1, 0), q(0), qs(1, 1))
        self.told_truth(False, pinned_fit, points, row(1, 2), row(0, 9), q(0), qs(-1, -1))
        self.told_truth(True, pinned_fit, points, row(1, 2), row(0, 9), q(0), qs(-2, -2))

    def test_points_all_at_the_places_x(self):
        points = pts((2, 1), (2, -1, 3), (2, 0))
        for slope in (q(0), q(7), q(-1, 2)):
            for numbers, truth in [((2, -3, 0), True), ((2, -3, 2), True), ((2, -3, -1), True), ((2, -3, 3), False),
                                   ((2, -2, 0), False), ((1, -3, 0), False), ((-1, 6, 0), False)]:
                self.told_truth(truth, pinned_fit, points, row(2, 1), row(2, 0), slope, qs(*numbers))

    def test_what_are_no_signs_fit_nothing(self):
        points = pts((0, 0), (1, 0), (2, 0))
        self.told_truth(True, pinned_fit, points, row(1, 1), row(0, 0), q(0), qs(0, 0, 0))
        for wrong in wrongs.wrong_numbers_for(3):
            self.told_truth(False, pinned_fit, points, row(1, 1), row(0, 0), q(0), wrong)

    def test_a_sign_moved_at_any_place(self):
        for points, prices, place in placed(1521, 1, (2, 4)):
            signs = pinned_signs(points, prices, place)
            slope = pinned_slopes(points, prices, place)[0]
            for k in range(len(points)):
                for by in (LITTLE, q(-num(LITTLE))):
                    other = moved(signs, k, by)
                    truth = model_moving.pinned_fit(points, prices, place, num(slope), other)
                    self.assertTrue(not truth or points[k][:2] == place)
                    self.told_truth(truth, pinned_fit, points, prices, place, slope, other)

    def test_the_least_slopes_and_no_others(self):
        for points, prices, place in placed(1522, 1, (2, 4, 12)):
            signs = pinned_signs(points, prices, place)
            low, high = map(num, pinned_slopes(points, prices, place))
            for slope, truth in [(low, True), (high, True), (low - num(LITTLE), False), (high + num(LITTLE), False),
                                 (low - 50, False), (high + 50, False)]:
                self.told_truth(truth, pinned_fit, points, prices, place, q(slope), signs)


class Refusals(Case):

    def test_no_spread_where_all_points_are_at_the_places_x(self):
        for points in (pts((2, 0), (2, 1, 3), (2, "-1/2")), pts((2, 5)), pts((2, 0), (2, 0)), pts((2, 1), (2, 7)) * 6):
            for place in (row(2, 0), row(2, 9), row(2, 5)):
                self.refused("NoSpread", pinned_slopes, points, row(1, 1), place)
                self.refused("NoSpread", pinned_signs, points, row(1, 1), place)
            place = (q(2 * samples.SIXTY + 1, samples.SIXTY), q(0))
            self.assertEqual(len(self.asked(pinned_slopes, points, row(1, 1), place)), 2)
            self.assertEqual(len(self.asked(pinned_signs, points, row(1, 1), place)), len(points))

    def test_one_other_x_at_any_place_is_enough(self):
        for at in range(4):
            points = wrongs.with_part(pts((1, 0), (1, 1), (1, 2), (1, 3)), at, row(2, 7, 1))
            self.assertEqual(self.asked(pinned_slopes, points, row(1, 1), row(1, 0)), (q(7), q(7)))

    def test_in_their_order(self):
        column = pts((2, 0), (2, 1))
        for wrong in wrongs.wrong_lines():
            for ask in (pinned_slopes, pinned_signs):
                self.refused("NoPlace", ask, column, row(1, 1), wrong)
                self.refused("NoPrices", ask, column, row(1, 0), wrong)
                self.refused("NoPoints", ask, [], row(1, 0), wrong)
            self.refused("NoPlace", pinned_fit, column, row(1, 1), wrong, None, None)
        for ask in (pinned_slopes, pinned_signs):
            self.refused("NoPrices", ask, column, row(1, 0), row(2, 0))
        for wrong in wrongs.wrong_fractions():
            self.refused("NoFraction", pinned_fit, column, row(1, 1), row(2, 0), wrong, None)


class InItsPlace(Case):

    def test_the_very_list_changed_and_handed_in_again(self):
        points = []
        for other, prices, place in placed(1531, 1, (2, 5)):
            points[:] = other
            told = pinned_slopes(points, prices, place)
            self.assertEqual(told, pinned_slopes(copy.deepcopy(other), prices, place))
            points[0] = row(40, 40, 7)
            least, low, high = model_moving.pinned_slopes(points, prices, place)
            self.assertEqual(pinned_slopes(points, prices, place), (q(low), q(high)))
            signs = pinned_signs(points, prices, place)
            self.assertTrue(model_moving.pinned_fit(points, prices, place, low, signs))
            spoilt(signs)
            again = pinned_signs(points, prices, place)
            self.assertTrue(pinned_fit(points, prices, place, q(low), again))
            again[0] = q(num(again[0]) + 1)
            self.assertFalse(pinned_fit(points, prices, place, q(low), again))


if __name__ == "__main__":
    unittest.main()
