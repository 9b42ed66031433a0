"""Points 3 and 23: roads from pair line to pair line, each to a lesser cost, to a line that is best."""

import copy
import random
import unittest

from signlines.best import is_best, least_cost
from signlines.corners import corners
from signlines.lines import cost, rises, stretched_line, tilted_line
from signlines.pairs import pair_lines
from signlines.points import stretched, tilted
from signlines.roads import is_road, road
from tests import model, model_roads, samples, wrongs
from tests.helpers import Case, num, pts, q, row, spoilt

COLUMNS = [pts((1, 1)), pts((1, 1), (1, 1)), pts((1, 0), (1, 2)), pts((1, 0), (1, 2), (1, 9)) * 4]
SQUARE = pts((0, 0), (0, 2), (1, 0), (1, 2))
STEPS = pts((0, 0), (1, 1), (2, 2), (1, 4), (0, 9), (3, -5))


class Told(Case):

    def held_to(self, points, prices, line):
        """A told road, held line by line against the document's words."""
        told = self.asked(road, points, prices, line)
        self.assertIsInstance(told, list)
        self.assertEqual(told[0], line)
        lines = pair_lines(points)
        for one in told:
            self.assertIn(one, lines)
        for one, other in zip(told, told[1:]):
            self.assertLess(num(cost(points, prices, other)), num(cost(points, prices, one)))
            self.assertIn((q(0), q(0)), list(zip(rises(points, one), rises(points, other))))
        self.assertEqual(cost(points, prices, told[-1]), least_cost(points, prices))
        self.assertIs(is_best(points, prices, told[-1]), True)
        self.assertTrue(model_roads.is_road(points, prices, told))
        self.told_truth(True, is_road, points, prices, told)
        if is_best(points, prices, line):
            self.assertEqual(told, [line])
        return told

    def test_known_ones(self):
        points = pts((0, 0), (1, 0), (2, 3))
        self.assertEqual(self.held_to(points, row(1, 1), row(0, 0)), [row(0, 0), row(0, "3/2")])
        self.assertEqual(self.held_to(points, row(1, 1), row(-3, 3)), [row(-3, 3), row(0, "3/2")])
        self.assertEqual(self.held_to(points, row(1, 1), row(0, "3/2")), [row(0, "3/2")])

    def test_two_points(self):
        self.assertEqual(self.held_to(pts((0, 5), (3, "-1/2", 9)), row(3, "1/2"), row(5, "-11/6")), [row(5, "-11/6")])

    def test_of_a_best_line_that_one_alone(self):
        for line in corners(SQUARE, row(1, 1)):
            self.assertEqual(self.held_to(SQUARE, row(1, 1), line), [line])
        self.assertEqual(self.held_to(SQUARE, row(1, 2), row(0, 0)), [row(0, 0)])
        for points, prices in samples.priced(2301, 1):
            for line in corners(points, prices)[:4]:
                self.assertEqual(self.held_to(points, prices, line), [line])

    def test_several_exchanges(self):
        self.assertGreater(max(len(self.held_to(STEPS, row(1, 1), line)) for line in pair_lines(STEPS)), 2)
        points = pts((0, 0), (0, 100), (1, 1), (1, 101), (9, 9), (9, 300), (10, -50))
        for prices in (row(1, 1), row(1, 50), row(50, 1)):
            for line in pair_lines(points):
                self.held_to(points, prices, line)

    def test_from_each_pair_line(self):
        for points, prices in samples.priced(2302, 2, (2, 3, 4, 6)):
            for line in pair_lines(points):
                self.held_to(points, prices, line)

    def test_twelve_points(self):
        chance = random.Random(2303)
        for points, prices in samples.priced(2304, 1, (12,)):
            for line in chance.sample(pair_lines(points), min(4, len(pair_lines(points)))):
                self.held_to(points, prices, line)

    def test_twelve_long_ones(self):
        chance = random.Random(2305)
        points, prices = samples.long_spread(2306, [12])[0], samples.long_prices(chance)
        line = max(pair_lines(points), key=lambda one: num(cost(points, prices, one)))
        told = self.asked(road, points, prices, line)
        self.assertTrue(model_roads.is_road(points, prices, told))
        self.assertEqual(told[0], line)
        self.told_truth(True, is_road, points, prices, told)

    def test_tilted_and_stretched(self):
        chance = random.Random(2307)
        for points, (up, down) in samples.priced(2308, 1, (3, 5)):
            line = chance.choice(pair_lines(points))
            by = samples.small_line(chance)
            told = road(points, (up, down), line)
            along = [tilted_line(one, by) for one in told]
            self.told_truth(True, is_road, tilted(points, by), (up, down), along)
            self.held_to(tilted(points, by), (up, down), along[0])
            for across, tall in [(q(-2), q(1, 3)), (q(1, 2), q(-3))]:
                prices = (up, down) if tall[0] > 0 else (down, up)
                along = [stretched_line(one, across, tall) for one in told]
                self.told_truth(True, is_road, stretched(points, across, tall), prices, along)
                self.held_to(stretched(points, across, tall), prices, along[0])

    def test_no_pair_line(self):
        chance = random.Random(2309)
        for line in (row(1, 0), row(3, 7), row(0, 1), row(0, "1/9")):
            self.refused("NoPair", road, SQUARE, row(1, 1), line)
        # Through two points of one x, through one point, and where all points are beneath.
        for points, line in [(pts((0, 0), (0, 0), (1, 1)), row(0, 5)), (pts((0, 0), (1, 1)), row(0, 2)),
                             (pts((0, 0), (1, 1)), row(50, 0)), (pts((0, 0), (0, 5), (1, 1)), row(0, 5))]:
            self.refused("NoPair", road, points, row(1, 1), line)
        for points, prices in samples.priced(2310, 1):
            for line in pair_lines(points)[:3]:
                moved = tilted_line(line, chance.choice([row(0, "1/99999"), row("-1/99999", 0)]))
                if moved not in model.pair_lines(points):
                    self.refused("NoPair", road, points, prices, moved)

    def test_a_best_line_that_is_no_pair_line(self):
        self.assertIs(is_best(SQUARE, row(1, 1), row(1, 0)), True)
        self.refused("NoPair", road, SQUARE, row(1, 1), row(1, 0))

    def test_refusals_in_their_order(self):
        for points in COLUMNS:
            for line in (row(1, 0), row(0, 0), row(3, 3)):
                self.refused("NoSpread", road, points, row(1, 1), line)
            for wrong in wrongs.wrong_lines():
                self.refused("NoLine", road, points, row(1, 1), wrong)
                self.refused("NoPrices", road, points, row(1, 0), wrong)
                self.refused("NoPoints", road, [], row(1, 0), wrong)
            self.refused("NoPrices", road, points, row(1, 0), row(7, 7))
        self.refused("NoPrices", road, SQUARE, row(0, 1), row(7, 7))
        self.refused("NoPoints", road, SQUARE + [row(1, 1, 0)], row(1, 1), row(7, 7))


class IsRoad(Case):

    def held_to(self, points, prices, lines):
        truth = model_roads.is_road(points, prices, lines)
        self.told_truth(truth, is_road, points, prices, lines)
        return truth

    def test_other_roads_than_the_told_ones(self):
        chance = random.Random(2321)
        lengths = set()
        for points, prices in samples.priced(2322, 2, (3, 4, 6)):
            if len(points) < 7:
                for line in chance.sample(pair_lines(points), min(3, len(pair_lines(points)))):
                    lines = model_roads.any_road(chance, points, prices, line)
                    self.told_truth(True, is_road, points, prices, lines)
                    lengths.add(len(lines))
        self.assertGreater(max(lengths), 3)

    def test_known_ones(self):
        points, prices = pts((0, 0), (1, 0), (2, 3)), row(1, 1)
        low, steep, best = row(0, 0), row(-3, 3), row(0, "3/2")
        for thing, truth in [([low, best], True), ([steep, best], True), ([best], True), ([best, best], False),
                             ([low], False), ([steep], False), ([best, low], False), ([low, steep, best], False),
                             ([low, best, best], False), ([low, low, best], False), ([], False)]:
            self.assertIs(model_roads.is_road(points, prices, thing), truth)
            self.told_truth(truth, is_road, points, prices, thing)

    def test_a_part_less_or_more_and_the_other_way(self):
        chance = random.Random(2323)
        for points, prices in samples.priced(2324, 1, (4, 6)):
            for line in chance.sample(pair_lines(points), min(4, len(pair_lines(points)))):
                told = road(points, prices, line)
                self.held_to(points, prices, told[::-1])
                self.held_to(points, prices, told + told[-1:])
                self.held_to(points, prices, told[:1] + told)
                for at in range(len(told)):
                    self.held_to(points, prices, told[:at])
                    self.held_to(points, prices, told[at:])
                    self.held_to(points, prices, told[:at] + told[at + 1:])
                    other = tilted_line(told[at], row("1/7", 0))
                    self.held_to(points, prices, wrongs.with_part(told, at, other))
                    self.held_to(points, prices, told[:at] + [other] + told[at:])

    def test_any_pair_lines_by_falling_costs(self):
        chance = random.Random(2325)
        truths = []
        for points, prices in samples.priced(2326, 2, (4, 5, 6)):
            lines = pair_lines(points)
            for _ in range(6):
                some = chance.sample(lines, min(len(lines), chance.randint(1, 4)))
                some = sorted(some, key=lambda line: -num(cost(points, prices, line)))
                truths.append(self.held_to(points, prices, some))
                truths.append(self.held_to(points, prices, some + corners(points, prices)[:1]))
        self.assertEqual(set(truths), {True, False})

    def test_each_costs_less_but_no_point_is_on_both(self):
        points = pts((0, 0), (1, 0), (2, 0), (3, 0), (0, 9), (1, 9), (5, 50))
        lines = [row(9, 0), row(0, 0)]
        self.assertLess(num(cost(points, row(1, 1), lines[1])), num(cost(points, row(1, 1), lines[0])))
        self.assertIs(is_best(points, row(1, 1), row(0, 0)), True)
        self.told_truth(False, is_road, points, row(1, 1), lines)
        self.told_truth(True, is_road, points, row(1, 1), road(points, row(1, 1), row(9, 0)))
        # These two cross, but where no point is.
        crossing = pts((0, 0), (4, 4), (0, 3), (4, 1), (4, 4), (2, 2, 5))
        self.held_to(crossing, row(1, 1), [row(3, "-1/2"), row(0, 1)])

    def test_each_has_a_common_point_but_one_costs_as_much(self):
        self.assertEqual(cost(SQUARE, row(1, 1), row(0, 0)), cost(SQUARE, row(1, 1), row(0, 2)))
        self.told_truth(False, is_road, SQUARE, row(1, 1), [row(0, 0), row(0, 2)])
        self.told_truth(True, is_road, SQUARE, row(1, 1), [row(0, 2)])

    def test_the_last_one_is_not_best(self):
        points = pts((0, 0), (1, 0), (2, 3), (3, 1))
        for line in pair_lines(points):
            self.told_truth(is_best(points, row(1, 1), line), is_road, points, row(1, 1), [line])

    def test_a_best_line_that_is_no_pair_line(self):
        self.told_truth(False, is_road, SQUARE, row(1, 1), [row(1, 0)])
        self.told_truth(False, is_road, SQUARE, row(1, 1), [row(1, 0), row(0, 0)])

    def test_points_that_are_not_spread(self):
        for points in COLUMNS:
            for thing in ([], [row(1, 0)], [row(0, 1)], None, [row(1, 0), row(0, 1)]):
                self.told_truth(False, is_road, points, row(1, 1), thing)
                self.refused("NoPrices", is_road, points, row(1, 0), thing)

    def test_what_is_no_list_of_lines(self):
        points, prices = pts((0, 0), (1, 0), (2, 3)), row(1, 1)
        right = [row(-3, 3), row(0, "3/2")]
        self.told_truth(True, is_road, points, prices, right)
        for wrong in wrongs.NOTHINGS + [[], (), tuple(right), right[0], [right], [list(one) for one in right],
                                        {0: right[0], 1: right[1]}, [right[0][0]], right + [None], [None] + right]:
            self.assertIs(is_road(points, prices, wrong), False)
        for at in (0, 1):
            for wrong in wrongs.wrong_lines():
                self.assertIs(is_road(points, prices, wrongs.with_part(right, at, wrong)), False)
                self.assertIs(is_road(points, prices, right[:at] + [wrong] + right[at:]), False)
        self.assertIs(is_road(points, prices, right + [None]), False)

    def test_true_is_no_one(self):
        points = pts((0, 0), (1, 0), (2, 0))
        self.told_truth(True, is_road, points, row(1, 1), [row(0, 0)])
        for line in (((False, 1), (0, 1)), ((0, True), (0, 1)), ((0, 1), (False, 1)), ((0, 1), (0, True))):
            self.told_truth(False, is_road, points, row(1, 1), [line])


class InItsPlace(Case):

    def test_the_very_list_changed_and_handed_in_again(self):
        points = []
        for other, prices in samples.priced(2331, 1, (4, 6)):
            points[:] = other
            line = pair_lines(points)[-1]
            told = road(points, prices, line)
            self.assertEqual(told, road(copy.deepcopy(other), prices, line))
            kept = copy.deepcopy(told)
            spoilt(told)
            self.assertEqual(road(points, prices, line), kept)
            self.assertIs(is_road(points, prices, kept), True)
            points[0] = row(9, 50, 30)
            self.assertIs(is_road(points, prices, kept), model_roads.is_road(points, prices, kept))
            line = pair_lines(points)[0]
            told = road(points, prices, line)
            self.assertTrue(model_roads.is_road(points, prices, told))
            told.append(told[0])
            self.assertIs(is_road(points, prices, told), False)


if __name__ == "__main__":
    unittest.main()
