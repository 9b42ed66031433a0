"""Points 13 and 14: the turns, the corners between them, the corners at a t."""

import copy
import random
import unittest
from fractions import Fraction

from signlines.best import is_best, least_cost
from signlines.corners import corners
from signlines.lines import cost, mixed, stretched_line, tilted_line
from signlines.points import stretched, tilted
from signlines.sums import span, sums
from signlines.turning import between, corners_at, turns
from tests import model, samples, wrongs
from tests.helpers import Case, num, pts, q, qs, row, spoilt
from tests.model_moving import at, least_at, moving, priced_sums

SQUARE = pts((0, 0), (0, 2), (1, 0), (1, 2))
LITTLE = Fraction(1, 10 ** 40)


def short_between(low, high, part):
    """A number between both, about that part of the way on, told by as few figures as will do."""
    wanted, scale = low + (high - low) * part, 10
    while not low < Fraction(round(wanted * scale), scale) < high:
        scale *= 10
    return Fraction(round(wanted * scale), scale)


def told_of(points):
    return turns(points), between(points)


class Known(Case):

    def held_to(self, points, wanted_turns, wanted_between):
        self.assertEqual(self.asked(turns, points), wanted_turns)
        self.assertEqual(self.asked(between, points), wanted_between)
        self.assertEqual(moving(points), ([num(t) for t in wanted_turns], wanted_between))

    def test_one_turn_with_more_lines_than_on_both_sides(self):
        self.held_to(SQUARE, [q(1, 2)], [[row(0, 0)], [row(2, 0)]])
        self.assertEqual(self.asked(corners_at, SQUARE, q(1, 2)), [row(0, 0), row(0, 2), row(2, -2), row(2, 0)])
        self.assertEqual(self.asked(corners_at, SQUARE, q(1, 3)), [row(0, 0)])
        self.assertEqual(self.asked(corners_at, SQUARE, q(2, 3)), [row(2, 0)])

    def test_three_stretches(self):
        points = pts((0, 0), (1, 0), (2, 0), (0, 5), (1, 5), (2, 5), (1, 2, 2), (0, 2), (2, 2))
        self.held_to(points, qs("3/10", "7/10"), [[row(0, 0)], [row(2, 0)], [row(5, 0)]])

    def test_prices_weights_and_distances_have_their_part(self):
        self.held_to(pts((0, 0, 3), (0, 4), (1, 0)), [q(3, 4)], [[row(0, 0)], [row(4, -4)]])
        self.held_to(pts((0, 0), (0, 4, 3), (1, 0)), [q(1, 4)], [[row(0, 0)], [row(4, -4)]])
        self.held_to(pts((0, 0, "1/3"), (0, 400), (1, 0)), [q(1, 4)], [[row(0, 0)], [row(400, -400)]])

    def test_no_turn(self):
        for points in (pts((0, 1), (3, 2)), pts((0, 1), (3, 2), (6, 3, 5)), pts((0, 1), (0, 1), (3, 2), (3, 2, 7))):
            self.held_to(points, [], [[row(1, "1/3")]])

    def test_more_lines_in_a_stretch(self):
        tent = pts((-1, 1), (0, 0), (1, 1))
        self.held_to(tent, [q(1, 3)], [[row(0, -1), row(0, 1)], [row(1, 0)]])
        self.assertEqual(self.asked(corners_at, tent, q(1, 3)), [row(0, -1), row(0, 1), row(1, 0)])
        upside = pts((-1, -1), (0, 0), (1, -1))
        self.held_to(upside, [q(2, 3)], [[row(-1, 0)], [row(0, -1), row(0, 1)]])
        both = pts((-1, 1), (0, 0), (1, 1), (-1, 3), (0, 4), (1, 3))
        told = self.asked(between, both)
        self.assertEqual(told[0], [row(0, -1), row(0, 1)])
        self.assertEqual(told[-1], [row(4, -1), row(4, 1)])
        self.assertEqual(told, moving(both)[1])

    def test_a_piece_at_a_turn(self):
        points = pts((0, 1), (1, 0), (1, 3))
        self.held_to(points, [q(1, 2)], [[row(1, -1)], [row(1, 2)]])
        self.assertEqual(self.asked(corners_at, points, q(1, 2)), [row(1, -1), row(1, 2)])

    def test_lines_best_at_the_turn_alone(self):
        points = pts((0, 0), (0, 3), (0, 5), (2, 0), (2, 3), (2, 5))
        self.held_to(points, qs("1/3", "2/3"), [[row(0, 0)], [row(3, 0)], [row(5, 0)]])
        told = self.asked(corners_at, points, q(1, 3))
        self.assertEqual(told, [row(0, 0), row(0, "3/2"), row(3, "-3/2"), row(3, 0)])


class Any(Case):

    def test_all_turns_and_all_corners_between_them(self):
        for points in samples.spread_ones(1301, 3, [2, 3, 4, 6, 8]) + samples.long_spread(1302, [2, 3, 4, 5]):
            wanted, lots = moving(points)
            self.assertEqual(self.asked(turns, points), [q(t) for t in wanted])
            self.assertEqual(self.asked(between, points), lots)

    def held_at_each_stretch(self, points, parts, at_turns):
        """Between two turns the told lot is best, and it alone; at a turn the lots of both sides are."""
        rows = priced_sums(points)
        told, lots = told_of(points)
        marks = [Fraction(0)] + [num(t) for t in told] + [Fraction(1)]
        self.assertEqual(len(lots), len(told) + 1)
        self.assertEqual(marks, sorted(set(marks)))
        for lot, low, high in zip(lots, marks, marks[1:]):
            for part in parts:
                self.assertEqual(least_at(rows, short_between(low, high, part))[1], lot)
        for t, lot, other in zip(told, lots, lots[1:]):
            self.assertNotEqual(lot, other)
            if at_turns:
                self.assertLessEqual(set(lot) | set(other), set(least_at(rows, num(t))[1]))

    def test_twelve_points(self):
        half, little = Fraction(1, 2), Fraction(1, 10 ** 9)
        for points in samples.spread_ones(1303, 2, [11, 12]) + samples.long_spread(1304, [6]):
            self.held_at_each_stretch(points, (little, half, 1 - little), True)
        for points in samples.long_spread(1312, [12]):
            self.held_at_each_stretch(points, (half,), False)

    def test_at_a_turn_a_little_ahead_and_a_little_behind(self):
        for points in samples.spread_ones(1305, 1, [3, 5, 8]) + samples.long_spread(1306, [4]):
            told, lots = told_of(points)
            rows = priced_sums(points)
            for t, ahead, behind in zip(map(num, told), lots, lots[1:]):
                little = LITTLE ** 30
                self.assertEqual(corners_at(points, q(t - little)), ahead)
                self.assertEqual(corners_at(points, q(t + little)), behind)
                here = corners_at(points, q(t))
                self.assertEqual(here, least_at(rows, t)[1])
                self.assertLessEqual(set(ahead) | set(behind), set(here))
                costs = {cost(points, at(t), line) for line in here + ahead + behind}
                self.assertEqual(costs, {least_cost(points, at(t))})

    def test_all_corners_of_a_stretch_have_the_same_sums(self):
        for points in samples.spread_ones(1307, 2, [3, 6, 12]) + samples.long_spread(1308, [6]):
            told, lots = told_of(points)
            own = []
            for lot in lots:
                found = {sums(points, line) for line in lot}
                self.assertEqual(len(found), 1)
                own.append(tuple(map(num, found.pop())))
            for t, (over, under), (less_over, more_under) in zip(map(num, told), own, own[1:]):
                self.assertLess(less_over, over)
                self.assertGreater(more_under, under)
                self.assertEqual((over - less_over) * t, (more_under - under) * (1 - t))

    def test_the_least_cost_goes_by_the_sums_of_the_stretch(self):
        for points in samples.spread_ones(1309, 1, [4, 7]):
            told, lots = told_of(points)
            marks = [Fraction(0)] + [num(t) for t in told] + [Fraction(1)]
            for lot, low, high in zip(lots, marks, marks[1:]):
                over, under = map(num, sums(points, lot[0]))
                for t in (low + (high - low) / 3, low, high):
                    if 0 < t < 1:
                        self.assertEqual(num(least_cost(points, at(t))), over * t + under * (1 - t))

    def test_the_span_of_each_told_corner_is_its_stretch(self):
        for points in samples.spread_ones(1310, 1, [3, 6]) + samples.long_spread(1311, [4]):
            told, lots = told_of(points)
            marks = [q(0)] + told + [q(1)]
            for lot, low, high in zip(lots, marks, marks[1:]):
                for line in lot:
                    self.assertEqual(span(points, line), (low, high))


class CornersAt(Case):

    def test_any_t(self):
        chance = random.Random(1321)
        for points in samples.spread_ones(1322, 2, [2, 4, 7, 12]) + samples.long_spread(1323, [3]):
            for t in (Fraction(1, 2), Fraction(chance.randint(1, 99), 100), num(q(1, samples.SIXTY))):
                found = self.asked(corners_at, points, q(t))
                self.assertEqual(found, model.corners(points, at(t))[1])
                self.assertEqual(found, corners(points, at(t)))

    def test_near_nought_and_near_one(self):
        for points in samples.spread_ones(1324, 1, [2, 5, 12]):
            lots = between(points)
            self.assertEqual(self.asked(corners_at, points, q(1, samples.SIXTY)), lots[0])
            self.assertEqual(self.asked(corners_at, points, q(samples.SIXTY - 1, samples.SIXTY)), lots[-1])

    def test_mixtures_at_a_turn_are_best_there(self):
        chance = random.Random(1325)
        for points in samples.spread_ones(1326, 1, [4, 6]):
            for t, ahead, behind in zip(turns(points), between(points), between(points)[1:]):
                lines = (ahead + behind)[:30]
                line = mixed(lines, samples.shares(chance, len(lines)))
                self.assertTrue(is_best(points, at(num(t)), line))

    def test_no_fraction_goes_ahead_of_no_spread_and_behind_no_points(self):
        column = pts((1, 1), (1, 2))
        for wrong in wrongs.wrong_parts():
            self.refused("NoFraction", corners_at, SQUARE, wrong)
            self.refused("NoFraction", corners_at, column, wrong)
            self.refused("NoPoints", corners_at, [], wrong)
        self.refused("NoSpread", corners_at, column, q(1, 2))
        self.refused("NoSpread", corners_at, pts((1, 1)), q(1, 2))


class Moved(Case):

    def test_in_another_order(self):
        chance = random.Random(1331)
        for points in samples.spread_ones(1332, 1, [4, 9]):
            self.assertEqual(told_of(chance.sample(points, len(points))), told_of(points))

    def test_tilted(self):
        chance = random.Random(1333)
        for points in samples.spread_ones(1334, 1, [3, 6, 12]):
            by = samples.small_line(chance)
            moved_turns, moved = told_of(tilted(points, by))
            self.assertEqual(moved_turns, turns(points))
            for lot, other in zip(between(points), moved):
                self.assertCountEqual([tilted_line(line, by) for line in lot], other)

    def test_stretched(self):
        for points in samples.spread_ones(1335, 1, [3, 6]):
            told, lots = told_of(points)
            for across, tall in [(q(3, 2), q(5)), (q(-2), q(1, 3)), (q(1, 2), q(-3)), (q(-1), q(-1))]:
                wanted, along = told, [[stretched_line(line, across, tall) for line in lot] for lot in lots]
                if tall[0] < 0:
                    # The prices change their places, so that t goes the other way.
                    wanted, along = [q(1 - num(t)) for t in told[::-1]], along[::-1]
                moved_turns, moved = told_of(stretched(points, across, tall))
                self.assertEqual(moved_turns, wanted)
                self.assertEqual(len(moved), len(along))
                for lot, other in zip(along, moved):
                    self.assertCountEqual(lot, other)

    def test_a_told_lot_changed_changes_nothing_told_later(self):
        once = copy.deepcopy(between(SQUARE))
        told = between(SQUARE)
        for lot in told:
            spoilt(lot)
        self.assertEqual(between(SQUARE), once)
        found = corners_at(SQUARE, q(1, 2))
        spoilt(found)
        self.assertEqual(len(corners_at(SQUARE, q(1, 2))), 4)

    def test_the_very_list_changed_and_handed_in_again(self):
        points = []
        for other in samples.spread_ones(1336, 1, [2, 5, 8]):
            points[:] = other
            self.assertEqual(told_of(points), told_of(copy.deepcopy(other)))
            points.append(row(9, -50, 3))
            wanted, lots = moving(points)
            self.assertEqual(told_of(points), ([q(t) for t in wanted], lots))


if __name__ == "__main__":
    unittest.main()
