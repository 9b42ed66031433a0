"""Point 14, but for turns: sums of lines, and the prices at which a line is best."""

import random
import unittest
from fractions import Fraction

from signlines.best import is_best, least_cost
from signlines.corners import corners
from signlines.lines import cost, mixed, stretched_line, tilted_line
from signlines.points import stretched, tilted
from signlines.sums import span, sums
from tests import model, samples
from tests.helpers import Case, num, pts, q, row


def at(t):
    """The prices at t."""
    return (q(t), q(1 - t))


def crossings(points, lines):
    """Every t above 0 and below 1 at which two of the lines cost alike."""
    found = set()
    for over, under in [model.sums(points, line) for line in lines]:
        for more, fewer in [model.sums(points, line) for line in lines]:
            if (over < more) and (under > fewer):
                found.add((under - fewer) / (under - fewer + more - over))
    return sorted(found)


def tried(points, line):
    """Each t at which something may change, and one between any two, and near both ends."""
    marks = [Fraction(0)] + crossings(points, model.pair_lines(points) + [line]) + [Fraction(1)]
    return sorted(marks[1:-1] + [(one + other) / 2 for one, other in zip(marks, marks[1:])])


class Sums(Case):

    def test_known_ones(self):
        points = pts((0, 1), (1, -2, 3), (2, 0, 5), (3, "1/2", "1/3"))
        self.assertEqual(self.asked(sums, points, row(0, 0)), (q(7, 6), q(6)))
        self.assertEqual(self.asked(sums, points, row(-10, 0)), (q(11 + 24 + 50 + Fraction(7, 2)), q(0)))
        self.assertEqual(self.asked(sums, pts((2, 3)), row(3, 0)), (q(0), q(0)))
        self.assertEqual(self.asked(sums, pts((2, 3, 4)), row(5, 0)), (q(0), q(8)))

    def test_any_and_the_cost_at_t(self):
        chance = random.Random(141)
        for points in samples.spread_ones(142, 2, [2, 5, 12]) + samples.long_spread(143, [2, 5]):
            for line in [samples.small_line(chance), samples.long_line(chance)] + model.pair_lines(points)[:3]:
                over, under = self.asked(sums, points, line)
                self.assertEqual((num(over), num(under)), model.sums(points, line))
                for t in (Fraction(1, 2), Fraction(2, 7)):
                    self.assertEqual(num(cost(points, at(t), line)), num(over) * t + num(under) * (1 - t))


class Span(Case):

    def held_to(self, points, line):
        """The told span, held against whether the line costs least at each t that is tried."""
        told = self.asked(span, points, line)
        lines = [model.sums(points, one) for one in model.pair_lines(points)]
        over, under = model.sums(points, line)
        truths = []
        for t in tried(points, line):
            truths.append(all(over * t + under * (1 - t) <= o * t + u * (1 - t) for o, u in lines))
            inside = told is not None and num(told[0]) <= t <= num(told[1])
            self.assertEqual(inside, truths[-1], (points, line, t))
        self.assertEqual(told is not None, any(truths), (points, line))
        if told is not None:
            for end in told:
                self.assertTrue(0 <= num(end) <= 1)
                self.assertTrue(num(end) in (0, 1) or num(end) in crossings(points, model.pair_lines(points)))
        return told

    def test_known_ones(self):
        square = pts((0, 0), (0, 2), (1, 0), (1, 2))
        self.assertEqual(self.held_to(square, row(0, 0)), (q(0), q(1, 2)))
        self.assertEqual(self.held_to(square, row(2, 0)), (q(1, 2), q(1)))
        self.assertEqual(self.held_to(square, row(0, 2)), (q(1, 2), q(1, 2)))
        self.assertEqual(self.held_to(square, row(1, 0)), (q(1, 2), q(1, 2)))
        self.assertIsNone(self.held_to(square, row(-1, 0)))
        self.assertIsNone(self.held_to(square, row(3, 0)))
        self.assertIsNone(self.held_to(square, row(1, 50)))

    def test_best_at_each_price(self):
        for points in (pts((0, 0), (1, 1)), pts((0, 0), (1, 1), (5, 5, "1/2")), pts((0, 3, 7), (0, 3), (2, 3))):
            line = model.pair_lines(points)[0]
            self.assertEqual(self.held_to(points, line), (q(0), q(1)))
            self.assertIsNone(self.held_to(points, tilted_line(line, row("1/9", 0))))
            self.assertIsNone(self.held_to(points, tilted_line(line, row("-1/9", 0))))
            self.assertIsNone(self.held_to(points, tilted_line(line, row(0, "1/9"))))

    def test_from_nought_between_and_up_to_one(self):
        points = pts((0, 0), (1, 0), (2, 0), (0, 5), (1, 5), (2, 5), (1, 2, 2), (0, 2), (2, 2))
        self.assertEqual(self.held_to(points, row(0, 0)), (q(0), q(3, 10)))
        self.assertEqual(self.held_to(points, row(2, 0)), (q(3, 10), q(7, 10)))
        self.assertEqual(self.held_to(points, row(5, 0)), (q(7, 10), q(1)))

    def test_best_at_none_though_no_one_line_costs_less_at_each(self):
        points = pts((0, 0), (0, 3), (0, 5), (2, 0), (2, 3), (2, 5))
        self.assertEqual(self.held_to(points, row(0, 0)), (q(0), q(1, 3)))
        self.assertEqual(self.held_to(points, row(3, 0)), (q(1, 3), q(2, 3)))
        self.assertEqual(self.held_to(points, row(5, 0)), (q(2, 3), q(1)))
        self.assertEqual(self.held_to(points, row(1, 0)), (q(1, 3), q(1, 3)))
        self.assertIsNone(self.held_to(points, row(0, "5/2")))
        heavy = pts((0, 0, 3), (0, 1), (0, 2, 3), (5, 0))
        self.assertIsNone(self.held_to(heavy, row("-1/9", 0)))
        self.assertIsNone(self.held_to(pts((0, 0), (1, 0), (2, 0), (0, 4), (1, 1), (2, 4)), row(4, -3)))

    def test_each_pair_line_and_others(self):
        chance = random.Random(151)
        for points in samples.spread_ones(152, 2, [2, 3, 4, 6]) + samples.long_spread(153, [3, 4]):
            told = [self.held_to(points, line) for line in model.pair_lines(points)[:9]]
            if len(points) < 5:
                self.assertTrue(any(one is not None and one[0] == q(0) for one in told))
                self.assertTrue(any(one is not None and one[1] == q(1) for one in told))
            self.held_to(points, samples.small_line(chance))

    def test_mixtures_are_best_where_all_that_are_mixed_are(self):
        chance = random.Random(154)
        for points in samples.spread_ones(155, 2, [3, 5]):
            for t in crossings(points, model.pair_lines(points))[:6]:
                found = corners(points, at(t))
                line = mixed(found, samples.shares(chance, len(found)))
                low, high = self.held_to(points, line)
                self.assertTrue(num(low) <= t <= num(high))
                self.assertTrue(is_best(points, at(t), line))

    def test_twelve_points(self):
        for points in samples.spread_ones(156, 1, [12]) + samples.long_spread(157, [12]):
            for t in (Fraction(1, 3), Fraction(4, 5)):
                line = corners(points, at(t))[0]
                low, high = map(num, self.asked(span, points, line))
                self.assertTrue(low <= t <= high)
                for end, out in ((low, low / 2), (high, (high + 1) / 2)):
                    if 0 < end < 1:
                        self.assertTrue(is_best(points, at(end), line))
                        self.assertFalse(is_best(points, at(out), line))
                over, under = map(num, sums(points, line))
                self.assertEqual(num(least_cost(points, at(t))), over * t + under * (1 - t))

    def test_points_tilted_stretched_and_upside_down(self):
        chance = random.Random(158)
        for points in samples.spread_ones(159, 1, [2, 4, 7]):
            for line in model.pair_lines(points)[:4]:
                told, by = span(points, line), samples.small_line(chance)
                self.assertEqual(self.asked(span, tilted(points, by), tilted_line(line, by)), told)
                for across, tall in [(q(2), q(3)), (q(-1, 3), q(1, 2)), (q(1), q(-1)), (q(-2), q(-5))]:
                    wanted = told
                    if told is not None and tall[0] < 0:
                        wanted = (q(1 - num(told[1])), q(1 - num(told[0])))
                    along = stretched_line(line, across, tall)
                    self.assertEqual(self.asked(span, stretched(points, across, tall), along), wanted)

    def test_refusals_in_their_order(self):
        column = pts((1, 1), (1, 2))
        self.refused("NoSpread", span, column, row(1, 1))
        self.refused("NoLine", span, column, row(1))
        self.refused("NoPoints", span, pts((1, 1), (1, 2, 0)), row(1))
        self.assertEqual(self.asked(sums, column, row(1, 1)), (q(0), q(1)))


if __name__ == "__main__":
    unittest.main()
