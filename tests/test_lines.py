"""Points 5 and 6: where lines stand, sides, costs, mixtures, lines that go along with moved points."""

import random
import unittest

from signlines.lines import cost, mixed, rises, sides, stands, stretched_line, tilted_line
from signlines.points import stretched, tilted
from tests import model, samples, wrongs
from tests.helpers import Case, num, pts, q, row

FLAT = row(0, 0)


def many_cases():
    """Points, prices and lines, some through points, of small and of long numbers."""
    chance = random.Random(21)
    found = []
    for points in samples.spread_ones(22, 2, [1 + 1, 4, 12]) + [pts((1, 1)), pts((2, 0), (2, 3), (2, -1))]:
        lines = [samples.small_line(chance), FLAT, (points[0][1], q(0))] + model.pair_lines(points)[:2]
        found += [(points, samples.some_prices(chance), line) for line in lines]
    for points in samples.long_spread(23, [2, 3, 12]):
        found.append((points, samples.long_prices(chance), samples.long_line(chance)))
        found.append((points, samples.long_prices(chance), (points[-1][1], q(0))))
    return found


class Standing(Case):

    def test_stands(self):
        self.assertEqual(self.asked(stands, row(1, 2), q(3)), q(7))
        self.assertEqual(self.asked(stands, row(1, 2), q(0)), q(1))
        self.assertEqual(self.asked(stands, row("1/2", "-1/3"), q(3, 2)), q(0))
        self.assertEqual(self.asked(stands, row(-5, 0), q(10 ** 59)), q(-5))

    def test_stands_anywhere(self):
        chance = random.Random(3)
        for make in (samples.small, samples.long_number):
            for _ in range(20):
                line, x = (make(chance), make(chance)), make(chance)
                self.assertEqual(self.asked(stands, line, x), q(num(line[0]) + num(line[1]) * num(x)))

    def test_rises(self):
        points = pts((0, 3), (1, 3), (2, 3), (-1, "1/2"))
        self.assertEqual(self.asked(rises, points, row(1, 2)), [q(2), q(0), q(-2), q(3, 2)])
        self.assertEqual(self.asked(rises, pts((0, 3)), row(5, 2)), [q(-2)])

    def test_rises_of_any(self):
        for points, prices, line in many_cases():
            self.assertEqual(self.asked(rises, points, line), [q(rise) for rise in model.rises(points, line)])

    def test_sides(self):
        points = pts((0, 3, "1/2"), (1, 3, 5), (2, 3, 7), (-1, "1/2", "1/3"), (3, 7, "1/7"))
        self.assertEqual(self.asked(sides, points, row(1, 2)), (q(5, 6), q(36, 7), q(7)))
        self.assertEqual(self.asked(sides, pts((0, 1, 2), (5, 3, "1/2")), FLAT), (q(5, 2), q(0), q(0)))
        self.assertEqual(self.asked(sides, pts((0, 0, 2), (5, 0, "1/2")), FLAT), (q(0), q(5, 2), q(0)))
        self.assertEqual(self.asked(sides, pts((0, -1, 2), (5, -3, "1/2")), FLAT), (q(0), q(0), q(5, 2)))

    def test_sides_of_any(self):
        for points, prices, line in many_cases():
            told = self.asked(sides, points, line)
            self.assertEqual(told, tuple(q(one) for one in model.sides(points, line)))


class Costs(Case):

    def test_cost(self):
        points = pts((0, 1), (1, -2, 3), (2, 0, 5))
        self.assertEqual(self.asked(cost, points, row(1, 1), FLAT), q(7))
        self.assertEqual(self.asked(cost, points, row(2, 1), FLAT), q(8))
        self.assertEqual(self.asked(cost, points, row(1, 2), FLAT), q(13))
        self.assertEqual(self.asked(cost, points, row("1/2", "1/3"), FLAT), q(5, 2))
        self.assertEqual(self.asked(cost, points, row(1, 10), row(-10, 0)), q(11 + 24 + 50))
        self.assertEqual(self.asked(cost, points, row(10, 1), row(10, 0)), q(9 + 36 + 50))
        self.assertEqual(self.asked(cost, pts((2, 3, 7)), row(1, 2), row(1, 1)), q(0))
        self.assertEqual(self.asked(cost, pts((2, 3, 7), (2, 3, 1)), row(1, 2), row(0, 1)), q(8))

    def test_cost_of_any(self):
        for points, prices, line in many_cases():
            self.assertEqual(self.asked(cost, points, prices, line), q(model.cost(points, prices, line)))


class Mixtures(Case):

    def test_mixed(self):
        lines = [row(0, 1), row(4, -1), row(7, 7)]
        self.assertEqual(self.asked(mixed, lines, [q(1, 4), q(3, 4), q(0)]), row(3, "-1/2"))
        self.assertEqual(self.asked(mixed, lines, [q(0), q(0), q(1)]), row(7, 7))
        self.assertEqual(self.asked(mixed, [row(2, 3)], [q(1)]), row(2, 3))
        self.assertEqual(self.asked(mixed, [row(2, 3)] * 2, [q(1, 3), q(2, 3)]), row(2, 3))

    def test_mixed_of_any_cost_no_more_than_the_costs_so_mixed(self):
        chance = random.Random(31)
        for points, prices, line in many_cases():
            make = samples.long_line if abs(line[0][0]) > 10 ** 9 else samples.small_line
            lines = [line] + [make(chance) for _ in range(chance.randint(0, 4))]
            shares = samples.shares(chance, len(lines))
            told = self.asked(mixed, lines, shares)
            self.assertEqual(told, model.mixed(lines, shares))
            costs = sum(num(share) * num(cost(points, prices, one)) for one, share in zip(lines, shares))
            self.assertLessEqual(num(cost(points, prices, told)), costs)

    def test_one_to_thirty_lines(self):
        for many in (1, 2, 29, 30):
            lines = [row(k, -k) for k in range(many)]
            mean = q(many - 1, 2)
            self.assertEqual(self.asked(mixed, lines, [q(1, many)] * many), (mean, q(-num(mean))))
        for many in (0, 31, 32, 60):
            self.refused("NoLines", mixed, [row(k, k) for k in range(many)], [q(1, many)] * many if many else [])

    def test_no_shares(self):
        for many in (1, 2, 3, 5):
            for wrong in wrongs.wrong_shares(many):
                if wrong != [q(1)]:
                    self.refused("NoShares", mixed, [row(k, 1) for k in range(many)], wrong)

    def test_no_lines_go_ahead_of_no_shares(self):
        for wrong in wrongs.wrong_list_of_lines():
            self.refused("NoLines", mixed, wrong, [q(1)])
            self.refused("NoLines", mixed, wrong, None)


class GoingAlong(Case):

    def test_tilted_line(self):
        self.assertEqual(self.asked(tilted_line, row(1, 2), row("1/2", -3)), row("3/2", -1))
        self.assertEqual(self.asked(tilted_line, row(1, 2), row(-1, -2)), FLAT)

    def test_stretched_line(self):
        self.assertEqual(self.asked(stretched_line, row(1, 2), q(4), q(3)), row(3, "3/2"))
        self.assertEqual(self.asked(stretched_line, row(1, 2), q(-1, 2), q(3)), row(3, -12))
        self.assertEqual(self.asked(stretched_line, row(1, 2), q(2), q(-1, 3)), row("-1/3", "-1/3"))

    def test_nothing_is_stretched_by_nought(self):
        self.refused("NoFraction", stretched_line, row(1, 2), q(0), q(1))
        self.refused("NoFraction", stretched_line, row(1, 2), q(1), q(0))
        self.refused("NoLine", stretched_line, row(1), q(0), q(0))

    def test_rises_over_a_line_that_goes_along(self):
        chance = random.Random(41)
        for points, prices, line in many_cases():
            by = samples.small_line(chance)
            self.assertEqual(rises(tilted(points, by), self.asked(tilted_line, line, by)), rises(points, line))
            for across, tall in [(q(2, 3), q(5)), (q(-3), q(1, 2)), (q(1, 7), q(-2)), (q(-1), q(-1))]:
                along = self.asked(stretched_line, line, across, tall)
                wanted = [q(num(rise) * num(tall)) for rise in rises(points, line)]
                self.assertEqual(rises(stretched(points, across, tall), along), wanted)

    def test_long_ones(self):
        chance = random.Random(42)
        for _ in range(10):
            line, other = samples.long_line(chance), samples.long_line(chance)
            across, tall = samples.long_weight(chance), q(-num(samples.long_weight(chance)))
            h, s = num(line[0]), num(line[1])
            self.assertEqual(self.asked(tilted_line, line, other), (q(h + num(other[0])), q(s + num(other[1]))))
            wanted = (q(h * num(tall)), q(s * num(tall) / num(across)))
            self.assertEqual(self.asked(stretched_line, line, across, tall), wanted)


if __name__ == "__main__":
    unittest.main()
