"""Points 1 to 3: what one module tells agrees with what the others tell of the same points, prices and lines."""

import random
import unittest
from fractions import Fraction

from signlines.alternation import alternation, comes_to
from signlines.best import best_line, is_best, least_cost
from signlines.bounded import bound_corners, bound_fit, bound_signs
from signlines.corners import corners, heights, kind, slopes
from signlines.desk import Desk
from signlines.directions import nearest_stripe
from signlines.kept import Kept
from signlines.lines import cost, mixed, rises, stands, stretched_line, tilted_line
from signlines.mixing import shares_of
from signlines.pairs import pair_lines
from signlines.pinned import pinned_fit, pinned_signs, pinned_slopes
from signlines.planes import least_plane_cost, plane_corners
from signlines.points import stretched, tilted
from signlines.profiles import profile, slope_cost
from signlines.ranges import held, range_of, strict_signs
from signlines.roads import is_road, road
from signlines.rows import middles, midway
from signlines.signing import best_signs, signs_of
from signlines.signs import fit, worth
from signlines.spots import laid_twice
from signlines.spotsigns import spot_fit, spot_signs
from signlines.sums import span, sums
from signlines.texts import show_fraction
from signlines.turning import between, corners_at, turns
from signlines.widths import least_width, narrowest, width
from tests import model, model_moving, samples
from tests.helpers import Case, num, pts, q, row

NOUGHT = q(0)
NO_BOUNDS = (None, None)


def moving_ones(seed, each=1, counts=(2, 3, 5, 7)):
    """Points with some t: each turn, one between each two, ahead of the first and behind the last."""
    found = []
    for points in samples.spread_ones(seed, each, counts) + samples.long_spread(seed + 1, [2, 3]):
        marks = [Fraction(0)] + [num(t) for t in turns(points)] + [Fraction(1)]
        for k, (one, other) in enumerate(zip(marks, marks[1:])):
            found.append((points, (one + other * 2) / 3, k, True))
            if other < 1:
                found.append((points, other, k, False))
    return found


def all_signs(points, prices):
    """Signs that fit the best lines, as each module tells them that tells some."""
    return [best_signs(points, prices), strict_signs(points, prices), bound_signs(points, prices, NO_BOUNDS)[0]]


class AtOnePrice(Case):
    """Prices (t, 1 less t): all modules tell of the same best lines."""

    def test_corners(self):
        for points, t, k, inside in moving_ones(301):
            prices = model_moving.at(t)
            told = corners(points, prices)
            self.assertEqual(told, corners_at(points, q(t)))
            self.assertEqual(told, bound_corners(points, prices, NO_BOUNDS))
            self.assertEqual(told[0], best_line(points, prices))
            self.assertEqual(told, [line for line in pair_lines(points) if is_best(points, prices, line)])
            lots = between(points)
            if inside:
                self.assertEqual(told, lots[k])
            else:
                for line in lots[k] + lots[k + 1]:
                    self.assertIn(line, told)

    def test_costs(self):
        for points, t, k, inside in moving_ones(302):
            prices = model_moving.at(t)
            least = num(least_cost(points, prices))
            for line in between(points)[k]:
                over, under = map(num, sums(points, line))
                self.assertEqual(over * t + under * (1 - t), least)
                self.assertEqual(num(cost(points, prices, line)), least)
            knots = profile(points, prices)[1]
            self.assertEqual(min(num(here) for _, here in knots), least)
            self.assertEqual(num(slope_cost(points, prices, best_line(points, prices)[1])), least)
            for signs in all_signs(points, prices):
                self.assertEqual(num(worth(points, signs)), least)

    def test_signs(self):
        for points, t, k, inside in moving_ones(303):
            prices = model_moving.at(t)
            lots = all_signs(points, prices)
            for line in between(points)[k][:3] + pair_lines(points)[:3]:
                best = is_best(points, prices, line)
                self.assertEqual(signs_of(points, prices, line) is not None, best)
                for signs in lots:
                    self.told_truth(best, fit, points, prices, line, signs)
                    self.told_truth(best, bound_fit, points, prices, NO_BOUNDS, line, (signs, NOUGHT))

    def test_spans(self):
        for points, t, k, inside in moving_ones(304, 1, (2, 3, 5)):
            for line in pair_lines(points)[:8]:
                told = span(points, line)
                truth = told is not None and num(told[0]) <= t <= num(told[1])
                self.assertEqual(truth, is_best(points, model_moving.at(t), line), (points, t, line))

    def test_spans_end_at_turns(self):
        for points in samples.spread_ones(305, 2, [3, 5, 7]):
            marks = [q(0)] + turns(points) + [q(1)]
            for line in pair_lines(points):
                told = span(points, line)
                if told is not None:
                    self.assertIn(told[0], marks)
                    self.assertIn(told[1], marks)

    def test_roads_and_kept_points_end_at_best_lines(self):
        for points, t, k, inside in moving_ones(306, 1, (2, 4)):
            prices = model_moving.at(t)
            told = corners(points, prices)
            for line in pair_lines(points)[:5]:
                self.assertIn(road(points, prices, line)[-1], told)
            kept = Kept(prices)
            for point in points:
                found = kept.put(*point)
            self.assertIn(kept.line(), told)
            self.assertEqual(found[-1], kept.line())
            self.told_truth(True, is_road, points, prices, found)
            self.assertEqual(kept.points(), points)

    def test_reach_and_mixtures(self):
        chance = random.Random(307)
        for points, t, k, inside in moving_ones(308):
            prices = model_moving.at(t)
            told = corners(points, prices)
            inner = mixed(told[:30], samples.shares(chance, len(told[:30])))
            self.assertTrue(is_best(points, prices, inner))
            low, high = map(num, slopes(points, prices))
            self.assertTrue(low <= num(inner[1]) <= high)
            knots = [num(slope) for slope, here in profile(points, prices)[1] if here == least_cost(points, prices)]
            self.assertEqual((min(knots), max(knots)), (low, high))
            x = samples.small(chance)
            low, high = map(num, heights(points, prices, x))
            self.assertTrue(low <= num(stands(inner, x)) <= high)
            if len(told) <= 30:
                self.assertEqual(mixed(told, shares_of(told, inner)), inner)
                self.assertEqual(kind(points, prices), min(len(told), 3) - 1)

    def test_held_points_and_their_ranges(self):
        for points, t, k, inside in moving_ones(309, 1, (2, 3, 5)):
            prices = model_moving.at(t)
            over = [rises(points, line) for line in corners(points, prices)]
            on_all = [n for n in range(len(points)) if all(row_of[n] == NOUGHT for row_of in over)]
            self.assertEqual(held(points, prices), on_all)
            strict, signs = strict_signs(points, prices), best_signs(points, prices)
            for n in range(len(points)):
                least, greatest = map(num, range_of(points, prices, n))
                for one in (strict, signs):
                    self.assertTrue(least <= num(one[n]) <= greatest)

    def test_pinned_at_a_place_of_a_best_line(self):
        chance = random.Random(310)
        for points, t, k, inside in moving_ones(311, 1, (2, 4)):
            prices = model_moving.at(t)
            line = best_line(points, prices)
            x = samples.small(chance)
            place = (x, stands(line, x))
            low, high = map(num, pinned_slopes(points, prices, place))
            self.assertTrue(low <= num(line[1]) <= high)
            # Signs that fit best lines are pinned signs, too: they come to 0 from whatever place they are seen.
            for signs in [pinned_signs(points, prices, place)] + all_signs(points, prices):
                self.told_truth(True, pinned_fit, points, prices, place, line[1], signs)

    def test_bound_by_the_slopes_of_the_profile(self):
        for points, t, k, inside in moving_ones(312, 1, (2, 4)):
            prices = model_moving.at(t)
            for slope, here in profile(points, prices)[1][:4]:
                line = bound_corners(points, prices, (slope, slope))[0]
                self.assertEqual(cost(points, prices, line), here)
                self.assertEqual(slope_cost(points, prices, slope), here)
                signs, price = bound_signs(points, prices, (slope, slope))
                self.assertEqual(num(worth(points, signs)) - num(price) * num(slope), num(here))

    def test_a_profiles_growth_is_a_price_the_other_way(self):
        for points, prices in samples.priced(313, 1, (2, 3, 5)):
            ahead, knots, behind = profile(points, prices)
            for slope, growth in ((num(knots[0][0]) - 1, ahead), (num(knots[-1][0]) + 1, behind)):
                signs, price = bound_signs(points, prices, (q(slope), q(slope)))
                self.assertEqual(num(price), -num(growth))

    def test_desks(self):
        for points, t, k, inside in moving_ones(314, 1, (2, 5)):
            prices = model_moving.at(t)
            desk = Desk()
            for point in points:
                desk.say("put " + " ".join(map(show_fraction, point)))
            desk.say("prices " + " ".join(map(show_fraction, prices)))
            lines = [" ".join(map(show_fraction, line)) for line in corners_at(points, q(t))]
            self.assertEqual((desk.say("best"), desk.say("corners")), (lines[0], "; ".join(lines)))
            self.assertEqual(desk.say("cost"), show_fraction(cost(points, prices, corners_at(points, q(t))[0])))
            self.assertEqual(desk.say("turns"), " ".join(map(show_fraction, turns(points))) or "none")
            self.assertEqual(desk.say("width"), show_fraction(width(points, narrowest(points)[0])))
            self.assertEqual(desk.say("signs"), " ".join(map(show_fraction, best_signs(points, prices))))


class Moved(Case):

    def test_a_point_moved_farther_on_its_own_side(self):
        chance = random.Random(321)
        for points, prices in samples.priced(322, 2, (2, 3, 5, 7)):
            line = chance.choice(corners(points, prices))
            signs = best_signs(points, prices)
            for k, rise in enumerate(rises(points, line)):
                if rise != NOUGHT:
                    x, y, weight = points[k]
                    by = chance.choice([Fraction(1, 10 ** 40), Fraction(1, 3), 1000]) * (1 if rise[0] > 0 else -1)
                    other = points[:k] + [(x, q(num(y) + by), weight)] + points[k + 1:]
                    self.assertTrue(is_best(other, prices, line))
                    # The very signs fit it still.
                    self.told_truth(True, fit, other, prices, line, signs)

    def test_a_point_put_on_the_line(self):
        chance = random.Random(323)
        for points, prices in samples.priced(324, 2, (2, 3, 5, 7)):
            line = chance.choice(corners(points, prices))
            x = samples.small(chance)
            more = points + [(x, stands(line, x), samples.weight(chance))]
            self.assertTrue(is_best(more, prices, line))
            self.told_truth(True, fit, more, prices, line, best_signs(points, prices) + [NOUGHT])
            k = chance.randrange(len(points))
            there = (points[k][0], stands(line, points[k][0]), points[k][2])
            self.assertTrue(is_best(points[:k] + [there] + points[k + 1:], prices, line))

    def test_points_tilted(self):
        chance = random.Random(325)
        for points, prices in samples.priced(326, 1, (2, 3, 5)):
            by = samples.small_line(chance)
            other = tilted(points, by)
            self.assertEqual(corners(other, prices), [tilted_line(line, by) for line in corners(points, prices)])
            self.assertEqual(least_cost(other, prices), least_cost(points, prices))
            self.assertEqual(held(other, prices), held(points, prices))
            self.assertEqual(turns(other), turns(points))
            self.assertEqual(least_width(other), least_width(points))
            self.assertEqual(narrowest(other), [tilted_line(line, by) for line in narrowest(points)])
            for line in pair_lines(points)[:4]:
                self.assertEqual(span(other, tilted_line(line, by)), span(points, line))
                self.assertEqual(sums(other, tilted_line(line, by)), sums(points, line))
                end = tilted_line(road(points, prices, line)[-1], by)
                self.assertTrue(is_best(other, prices, end))
            self.told_truth(True, fit, other, prices, best_line(other, prices), strict_signs(points, prices))

    def test_points_stretched(self):
        for points, (up, down) in samples.priced(327, 1, (2, 3, 5)):
            for across, tall in [(q(2), q(3)), (q(-1, 3), q(1)), (q(1), q(-1)), (q(-5), q(-1, 2))]:
                other = stretched(points, across, tall)
                prices = (up, down) if tall[0] > 0 else (down, up)
                far = abs(num(tall))
                wanted = [stretched_line(line, across, tall) for line in corners(points, (up, down))]
                self.assertEqual(corners(other, prices), sorted(wanted, key=lambda line: [num(part) for part in line]))
                self.assertEqual(num(least_cost(other, prices)), num(least_cost(points, (up, down))) * far)
                self.assertEqual(num(least_width(other)), num(least_width(points)) * far)
                self.assertEqual(held(other, prices), held(points, (up, down)))
                marks = turns(points) if tall[0] > 0 else [q(1 - num(t)) for t in turns(points)[::-1]]
                self.assertEqual(turns(other), marks)


class LaidTwice(Case):

    def test_planes_with_across_nought(self):
        chance = random.Random(331)
        for points in samples.spread_ones(332, 1, [2, 3, 4]):
            prices = samples.some_prices(chance)
            spots = laid_twice(points, q(1, 2), q(-3))
            self.assertEqual(num(least_plane_cost(spots, prices)), 2 * num(least_cost(points, prices)))
            flat = [plane[:2] for plane in plane_corners(spots, prices) if plane[2] == NOUGHT]
            self.assertEqual(flat, corners(points, prices))
            signs = spot_signs(spots, prices)
            for line in corners(points, prices):
                self.told_truth(True, spot_fit, spots, prices, line + (NOUGHT,), signs)
                halves = [q((num(one) + num(other)) / 2) for one, other in zip(signs[::2], signs[1::2])]
                self.told_truth(True, fit, points, prices, line, halves)


class OfOneSlope(Case):
    """Rows of values and stripes, as lines of one slope."""

    def test_middles_are_lines_of_slope_nought(self):
        for points, prices in samples.priced(341, 1):
            values = [(y, weight) for x, y, weight in points]
            found = bound_corners(points, prices, (NOUGHT, NOUGHT))
            self.assertEqual(middles(values, prices), (found[0][0], found[-1][0]))
            self.assertEqual(slope_cost(points, prices, NOUGHT), cost(points, prices, found[0]))

    def test_midway_is_the_narrowest_of_slope_nought(self):
        for points, _ in samples.priced(342, 1):
            number, distance = midway([(y, weight) for x, y, weight in points])
            self.assertEqual(width(points, (number, NOUGHT)), distance)
            self.assertLessEqual(num(least_width(points)), num(distance))

    def test_stripes_are_lines_of_one_slope(self):
        chance = random.Random(343)
        for points, _ in samples.priced(344, 1, (2, 3, 5)):
            slope = num(samples.small(chance))
            k, least, greatest, square = nearest_stripe(points, [(q(-slope), q(1))])
            found = bound_corners(points, row(1, 1), (q(slope), q(slope)))
            self.assertEqual((least, greatest), (found[0][0], found[-1][0]))
            self.assertEqual(num(square) * (1 + slope ** 2), num(slope_cost(points, row(1, 1), q(slope))) ** 2)

    def test_the_nearest_of_two_as_their_profiles_have_it(self):
        for points in samples.spread_ones(345, 1, [3, 5]):
            lots = [Fraction(-1), Fraction(1, 2), Fraction(2)]
            told = nearest_stripe(points, [(q(-slope), q(1)) for slope in lots])
            squares = [num(slope_cost(points, row(1, 1), q(slope))) ** 2 / (1 + slope ** 2) for slope in lots]
            self.assertEqual((told[0], num(told[3])), (squares.index(min(squares)), min(squares)))


class Widths(Case):

    def test_three_points_alternate_or_two_stand_at_one_x(self):
        for points in samples.spread_ones(351, 2, [2, 3, 5, 12]):
            found = alternation(points)
            if found:
                self.assertEqual(comes_to(points, found), least_width(points))
                at = [num(points[k][0]) for k, _, _ in found]
                signs = [sign for _, sign, _ in found]
                self.assertTrue(len(found) == 2 and at[0] == at[1] or at == sorted(set(at)) and len(found) == 3)
                self.assertTrue(all(one == -other for one, other in zip(signs, signs[1:])))
            for line in narrowest(points):
                self.assertEqual(width(points, line), least_width(points))


class Known(Case):
    """One lot of points, reckoned by hand, through all the modules."""

    def test_it(self):
        points, prices = pts((0, 0), (1, 1), (2, 2), (1, 4)), row(1, 1)
        line = row(0, 1)
        self.assertEqual((corners(points, prices), least_cost(points, prices)), ([line], q(3)))
        self.assertEqual((turns(points), span(points, line)), ([q("3/4")], (q(0), q("3/4"))))
        self.assertEqual(between(points), [[line], [row(0, 4), row(6, -2)]])
        self.assertEqual(model.mixed([line], shares_of([line], line)), line)
        self.assertEqual([range_of(points, prices, k) for k in range(4)],
                         [(q(-1), q(0)), (q(-1), q(1)), (q(-1), q(0)), (q(1), q(1))])
        self.assertEqual(held(points, prices), [0, 1, 2])
        self.assertEqual(profile(points, prices), (q(-2), [(q(1), q(3))], q(2)))
        self.assertEqual(middles([(y, weight) for x, y, weight in points], prices), (q(1), q(2)))
        self.assertEqual(midway([(y, weight) for x, y, weight in points]), (q(2), q(2)))
        self.assertEqual(nearest_stripe(points, [row(1, 0), row(0, 1), row(1, -1)]), (0, q(1), q(1), q(4)))
        self.assertEqual(least_plane_cost(laid_twice(points, q(0), q(1)), prices), q(6))


if __name__ == "__main__":
    unittest.main()
