"""Point 21: alternations, what they come to, and one that comes to the least width."""

import copy
import random
import unittest
from fractions import Fraction

from signlines.alternation import alternation, comes_to
from signlines.points import stretched, tilted
from tests import model, model_widths, samples, wrongs
from tests.helpers import Case, num, pts, q, row, spoilt

PEAK = pts((0, 0), (1, 1), (2, 0))


def parts(*rows):
    """An alternation from numbers, signs and shares."""
    return [(k, sign, q(share)) for k, sign, share in rows]


def all_points(seed, each, counts):
    return samples.spread_ones(seed, each, counts) + samples.long_spread(seed + 1, [2, 3, 5])


class ComesTo(Case):

    def test_known_ones(self):
        thing = parts((0, -1, "1/4"), (1, 1, "1/2"), (2, -1, "1/4"))
        self.assertEqual(self.asked(comes_to, PEAK, thing), q(1, 2))
        self.assertEqual(self.asked(comes_to, PEAK, thing[::-1]), q(1, 2))
        over = parts((0, 1, "1/4"), (1, -1, "1/2"), (2, 1, "1/4"))
        self.assertEqual(self.asked(comes_to, PEAK, over), q(-1, 2))
        self.assertEqual(self.asked(comes_to, pts((0, 1), (1, 2), (2, 3)), thing), q(0))
        heavy = pts((0, 0, 2), (1, 1, 3), (2, 0, "1/2"))
        self.assertEqual(self.asked(comes_to, heavy, thing), q(12, 19))

    def test_two_of_one_x(self):
        points = pts((0, 5), (3, 7), (3, 1, "1/2"))
        self.assertEqual(self.asked(comes_to, points, parts((1, 1, "1/2"), (2, -1, "1/2"))), q(2))
        self.assertEqual(self.asked(comes_to, points, parts((2, -1, "1/2"), (1, 1, "1/2"))), q(2))
        self.assertEqual(self.asked(comes_to, points, parts((2, 1, "1/2"), (1, -1, "1/2"))), q(-2))
        column = pts((3, 7), (3, 1))
        self.assertEqual(self.asked(comes_to, column, parts((0, 1, "1/2"), (1, -1, "1/2"))), q(3))
        self.assertEqual(self.asked(comes_to, pts((3, 7), (3, 7)), parts((0, 1, "1/2"), (1, -1, "1/2"))), q(0))

    def test_three_of_unlike_distances(self):
        points = pts((0, 0), (1, 6), (3, 0))
        self.assertEqual(self.asked(comes_to, points, parts((0, -1, "1/3"), (1, 1, "1/2"), (2, -1, "1/6"))), q(3))
        self.assertIsNone(self.asked(comes_to, points, parts((0, -1, "1/6"), (1, 1, "1/2"), (2, -1, "1/3"))))
        self.assertIsNone(self.asked(comes_to, points, parts((0, -1, "1/4"), (1, 1, "1/2"), (2, -1, "1/4"))))

    def test_more_than_three(self):
        points = pts((0, 1), (1, 5), (2, 2), (3, 7), (0, 0))
        self.assertEqual(self.asked(comes_to, points, parts((0, 1, "1/8"), (1, -1, "3/8"), (2, 1, "3/8"),
                                                            (3, -1, "1/8"))), q(-15 + 6 + 1 - 7, 8))
        self.assertEqual(self.asked(comes_to, points, parts((0, 1, "1/4"), (1, -1, "1/4"), (2, -1, "1/4"),
                                                            (3, 1, "1/4"))), q(1, 4))
        five = parts((3, 1, "1/8"), (0, 1, "1/8"), (1, -1, "1/4"), (2, -1, "1/8"), (4, -1, "1/8"))
        self.assertFalse(model_widths.is_alternation(points, five))
        self.assertIsNone(self.asked(comes_to, points, five))

    def test_any_of_many_points_are_no_more_than_any_width(self):
        chance = random.Random(2101)
        for points in samples.spread_ones(2102, 2, [4, 7, 12]) + samples.long_spread(2103, [4, 7]):
            whole = self.mixed_of_some(chance, points)
            told = self.asked(comes_to, points, whole)
            self.assertEqual(told, q(model_widths.comes_to(points, whole)))
            for line in model.pair_lines(points)[:5] + [samples.small_line(chance)]:
                self.assertLessEqual(num(told), model_widths.width(points, line))

    def mixed_of_some(self, chance, points):
        """An alternation of up to so many points: balanced signs, one for each, brought to shares."""
        xs = [x for x, y, w in model.numbers(points)]
        a, b = next((a, b) for a in range(len(xs)) for b in range(a) if xs[a] != xs[b])
        signs = [Fraction(0)] * len(xs)
        while not any(signs):
            signs = [Fraction(0 if k in (a, b) else chance.randint(-3, 3)) for k in range(len(xs))]
            total, moment = sum(signs), sum(sign * x for sign, x in zip(signs, xs))
            signs[a] = (moment - total * xs[b]) / (xs[b] - xs[a])
            signs[b] = -total - signs[a]
        whole = sum(abs(sign) for sign in signs)
        rows = [(k, 1 if sign > 0 else -1, q(abs(sign) / whole)) for k, sign in enumerate(signs) if sign != 0]
        return chance.sample(rows, len(rows))


class NoAlternation(Case):

    RIGHT = parts((0, -1, "1/4"), (1, 1, "1/2"), (2, -1, "1/4"))

    def none(self, points, thing):
        handed = repr(thing)
        self.assertIsNone(comes_to(points, thing), (points, thing))
        self.assertEqual(repr(thing), handed)

    def test_the_empty_list(self):
        for points in (PEAK, pts((1, 1)), pts((0, 0), (1, 1))):
            self.none(points, [])

    def test_what_is_no_list_of_tuples_of_three(self):
        right = self.RIGHT
        for wrong in wrongs.NOTHINGS + [tuple(right), right[0], [right], {0: right[0]}, iter(right), (), [()],
                                        [list(one) for one in right], [one[:2] for one in right],
                                        [one + (1,) for one in right]]:
            self.none(PEAK, wrong)
        for at in range(3):
            one = right[at]
            for wrong in wrongs.NOTHINGS + [(), one[:2], one[1:], one + (q(0),), list(one), (one,), one[::-1],
                                            one[0], one[2]]:
                self.none(PEAK, wrongs.with_part(right, at, wrong))

    def test_no_point_of_that_number(self):
        for at in range(3):
            k, sign, share = self.RIGHT[at]
            wrong_numbers = [-1, -3, 3, 4, 12, 10 ** 60, None, "0", "1", q(k), (k,), [k]]
            for wrong in wrong_numbers + [k - 3, bool(k) if k < 2 else None]:
                self.none(PEAK, wrongs.with_part(self.RIGHT, at, (wrong, sign, share)))

    def test_true_and_false_are_no_numbers_and_no_signs(self):
        points = pts((0, 0), (0, 4))
        self.assertEqual(self.asked(comes_to, points, parts((1, 1, "1/2"), (0, -1, "1/2"))), q(2))
        self.none(points, [(True, 1, q(1, 2)), (0, -1, q(1, 2))])
        self.none(points, [(1, 1, q(1, 2)), (False, -1, q(1, 2))])
        self.none(points, [(1, True, q(1, 2)), (0, -1, q(1, 2))])
        self.none(points, [(0, -1, q(1, 2)), (1, True, q(1, 2))])

    def test_no_number_twice(self):
        self.none(PEAK, parts((0, -1, "1/8"), (1, 1, "1/2"), (0, -1, "1/8"), (2, -1, "1/4")))
        self.none(PEAK, parts((0, -1, "1/4"), (1, 1, "1/4"), (2, -1, "1/4"), (1, 1, "1/4")))
        self.none(pts((0, 1), (3, 2)), parts((0, 1, "1/2"), (0, -1, "1/2")))

    def test_no_such_sign(self):
        for at in range(3):
            k, sign, share = self.RIGHT[at]
            for wrong in (0, 2, -2, -sign, q(sign), (sign,), str(sign), "+", None, True, False, 2 * sign):
                self.none(PEAK, wrongs.with_part(self.RIGHT, at, (k, wrong, share)))

    def test_no_such_share(self):
        for at in range(3):
            k, sign, share = self.RIGHT[at]
            for wrong in wrongs.NO_FRACTIONS + wrongs.NOT_ABOVE_NOUGHT + [q(-num(share)), q(1), q(num(share) * 2)]:
                self.none(PEAK, wrongs.with_part(self.RIGHT, at, (k, sign, wrong)))

    def test_shares_of_nought_and_below(self):
        points = pts((0, 0), (1, 1), (2, 0), (3, 5))
        self.none(points, self.RIGHT + parts((3, 1, 0)))
        self.none(points, parts((3, -1, 0)) + self.RIGHT)
        self.none(points, parts((0, 1, "-1/4"), (1, 1, "1/2"), (2, -1, "1/4"), (3, 1, "1/2")))
        self.none(PEAK, parts((0, 1, "-1/4"), (1, 1, "1/2"), (2, -1, "1/4")))

    def test_shares_that_do_not_come_to_one(self):
        for part in ("1/2", 2, "4/5"):
            self.none(PEAK, [(k, sign, q(num(share) * Fraction(part))) for k, sign, share in self.RIGHT])

    def test_signs_times_shares_that_do_not_come_to_nought(self):
        for rows in (parts((0, 1, 1)), parts((0, 1, "1/2"), (1, 1, "1/2")), parts((0, -1, "1/2"), (1, 1, "1/2")),
                     parts((0, 1, "1/4"), (1, 1, "1/2"), (2, 1, "1/4")), self.RIGHT[:2], self.RIGHT[1:]):
            self.none(PEAK, rows)
        self.none(pts((0, 0), (0, 1), (0, 2)), parts((0, 1, "1/3"), (1, -1, "1/3"), (2, 1, "1/3")))
        self.none(pts((0, 0), (3, 1), (1, 2)), parts((0, 1, "1/3"), (1, 1, "1/3"), (2, -1, "1/3")))
        self.none(pts((-1, 0), (1, 1), (0, 2)), parts((0, 1, "1/2"), (1, 1, "1/2")))
        self.none(pts((0, 0), (0, 1)), parts((0, 1, "1/3"), (1, -1, "2/3")))

    def test_their_moment_is_not_nought(self):
        self.none(pts((0, 0), (1, 1)), parts((0, 1, "1/2"), (1, -1, "1/2")))
        self.none(pts((0, 0), (1, 1), (2, 0), (5, 5)), parts((0, -1, "1/4"), (1, 1, "1/2"), (3, -1, "1/4")))

    def test_any_told_one_with_a_part_changed(self):
        for points in all_points(2111, 1, [3, 5, 12]):
            told = alternation(points)
            for at in range(len(told)):
                k, sign, share = told[at]
                self.none(points, told[:at] + told[at + 1:])
                self.none(points, wrongs.with_part(told, at, (k, -sign, share)))
                self.none(points, wrongs.with_part(told, at, (k, sign, q(num(share) + Fraction(1, 10 ** 40)))))
                self.none(points, told + [told[at]])
                self.none(points, wrongs.with_part(told, at, (len(points), sign, share)))


class Told(Case):

    def held_to(self, points):
        """A told alternation, held against the document's words."""
        told = self.asked(alternation, points)
        least = model_widths.least_width(points)
        if least == 0:
            self.assertEqual(told, [])
            return told
        self.assertIsInstance(told, list)
        for k, sign, share in told:
            self.assertEqual([(part.__class__) for part in (k, sign, share)], [int, int, tuple])
            self.assertTrue(0 <= k < len(points) and sign in (1, -1) and num(share) > 0)
            self.assertEqual(share, q(num(share)))
        self.assertTrue(model_widths.is_alternation(points, told))
        self.assertEqual(model_widths.comes_to(points, told), least)
        self.assertEqual(self.asked(comes_to, points, told), q(least))
        self.held_in_order(points, told)
        for line in model_widths.narrowest(points):
            rises = model.rises(points, line)
            for k, sign, share in told:
                self.assertEqual(rises[k] > 0, sign == 1)
                self.assertEqual(abs(rises[k]) * num(points[k][2]), least)
        return told

    def held_in_order(self, points, told):
        xs = [num(points[k][0]) for k, sign, share in told]
        if len(told) == 2:
            self.assertEqual(xs[0], xs[1])
            self.assertEqual([sign for k, sign, share in told], [1, -1])
        else:
            self.assertEqual(len(told), 3)
            self.assertTrue(xs[0] < xs[1] < xs[2])

    def test_three(self):
        self.assertEqual(self.held_to(PEAK), parts((0, -1, "1/4"), (1, 1, "1/2"), (2, -1, "1/4")))
        self.assertEqual(self.held_to(PEAK[::-1]), parts((2, -1, "1/4"), (1, 1, "1/2"), (0, -1, "1/4")))
        self.assertEqual(self.held_to(pts((0, 0), (1, -1), (2, 0))),
                         parts((0, 1, "1/4"), (1, -1, "1/2"), (2, 1, "1/4")))
        self.assertEqual(self.held_to(pts((3, 0), (0, 0), (1, 6))),
                         parts((1, -1, "1/3"), (2, 1, "1/2"), (0, -1, "1/6")))
        self.assertEqual(self.held_to(pts((0, 0), (2, 0, 9), (4, 0, "1/9"), (1, 1))),
                         parts((0, -1, "1/4"), (3, 1, "1/2"), (1, -1, "1/4")))

    def test_two_of_one_x(self):
        self.assertEqual(self.held_to(pts((0, 0), (0, 2), (5, 1))), parts((1, 1, "1/2"), (0, -1, "1/2")))
        self.assertEqual(self.held_to(pts((0, 2), (0, 0), (5, 1))), parts((0, 1, "1/2"), (1, -1, "1/2")))
        self.assertEqual(self.held_to(pts((5, 1), (0, "1/2"), (0, "1/3"), (0, "2/5"))),
                         parts((1, 1, "1/2"), (2, -1, "1/2")))
        self.assertEqual(self.held_to(pts((0, 0), (5, 1), (0, -9, 4), (0, 3, "1/2"))),
                         parts((0, 1, "1/2"), (2, -1, "1/2")))

    def test_weights_have_their_part(self):
        heavy = pts((0, 0), (0, 2, 5), (0, 9, "1/100"), (3, 0))
        self.assertEqual(self.held_to(heavy), parts((1, 1, "1/2"), (0, -1, "1/2")))
        self.held_to(pts((0, 0, "1/9"), (1, 5, "1/7"), (2, 0, 90), (3, 1, 60), (4, 0, 70)))

    def test_a_least_width_of_nought(self):
        for points in (pts((0, 0), (1, 1)), pts((0, 5), (2, 4, 9), (4, 3), (1, "9/2")), pts((0, 0), (0, 0), (3, 1)),
                       pts(*[(k, 2 * k - 3, k + 1) for k in range(12)]), pts(("1/3", 1), ("1/2", 1), ("1/5", 1))):
            self.assertEqual(self.held_to(points), [])

    def test_any(self):
        for points in all_points(2121, 4, [2, 3, 4, 6, 12]):
            self.held_to(points)

    def test_twelve_long_ones(self):
        points = samples.long_spread(2123, [12])[0]
        told = self.asked(alternation, points)
        self.assertTrue(model_widths.is_alternation(points, told))
        self.assertEqual(model_widths.comes_to(points, told), model_widths.least_width(points))
        self.held_in_order(points, told)

    def test_points_tilted_stretched_and_in_another_order(self):
        chance = random.Random(2131)
        for points in samples.spread_ones(2132, 1, [3, 6]):
            self.held_to(tilted(points, samples.small_line(chance)))
            self.held_to(chance.sample(points, len(points)))
            for across, tall in [(q(3, 2), q(5)), (q(-2), q(1, 3)), (q(1, 2), q(-3))]:
                self.held_to(stretched(points, across, tall))

    def test_the_very_list_changed_and_handed_in_again(self):
        points = []
        for other in samples.spread_ones(2133, 1, [3, 6]):
            points[:] = other
            once = alternation(points)
            self.assertEqual(once, alternation(copy.deepcopy(other)))
            kept = copy.deepcopy(once)
            spoilt(once)
            self.assertEqual(alternation(points), kept)
            points[1] = row(17, 90, 2)
            self.held_to(points)
            told = alternation(points)
            if told != []:
                self.assertEqual(comes_to(points, told), q(model_widths.least_width(points)))
                told.append(told[0])
            self.assertIsNone(comes_to(points, told))

    def test_refusals(self):
        for wrong in wrongs.wrong_points():
            self.refused("NoPoints", comes_to, wrong, [])
            self.refused("NoPoints", comes_to, wrong, parts((0, 1, "1/2"), (1, -1, "1/2")))
        for points in (pts((1, 1)), pts((1, 0), (1, 2)), pts((1, 0), (1, 2), (1, 9)) * 4):
            self.refused("NoSpread", alternation, points)


if __name__ == "__main__":
    unittest.main()
