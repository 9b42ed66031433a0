"""Points 6 and 11: shares by which a line is mixed of others."""

import copy
import random
import unittest
from fractions import Fraction
from itertools import product

from signlines.best import is_best
from signlines.corners import corners
from signlines.lines import mixed
from signlines.mixing import shares_of
from tests import model, model_bounds, samples, wrongs
from tests.helpers import Case, num, q, qs, row, spoilt

LITTLE = q(1, 10 ** 40)
TRIANGLE = [row(0, 0), row(4, 0), row(0, 4)]


def lines_at(*rows):
    return [row(*one) for one in rows]


class Mixing(Case):

    def held_to(self, lines, line):
        """Told shares, held against the document's words."""
        told = self.asked(shares_of, lines, line)
        self.assertIsInstance(told, list)
        self.assertEqual(told, [q(num(share)) for share in told])
        self.assertEqual(len(told), len(lines))
        self.assertTrue(all(num(share) >= 0 for share in told), told)
        self.assertEqual(sum(map(num, told)), 1)
        self.assertEqual(model.mixed(lines, told), line)
        self.assertEqual(mixed(lines, told), line)
        return told

    def none_of(self, lines, line):
        self.assertIsNone(self.asked(shares_of, lines, line), (lines, line))

    def either(self, lines, line):
        """Told or not, as going through all twos and threes has it; whether it is told."""
        truth = model_bounds.is_mixture(lines, line)
        if truth:
            self.held_to(lines, line)
        else:
            self.none_of(lines, line)
        return truth


class Known(Mixing):

    def test_one_line(self):
        self.assertEqual(self.held_to([row(3, "-1/2")], row(3, "-1/2")), qs(1))
        for line in (row(3, "1/2"), row(2, "-1/2"), row(0, 0), (q(3), q(-1, 2 + samples.SIXTY))):
            self.none_of([row(3, "-1/2")], line)

    def test_two_lines(self):
        lines = lines_at((0, 1), (3, -5))
        self.assertEqual(self.held_to(lines, row(1, -1)), qs("2/3", "1/3"))
        self.assertEqual(self.held_to(lines, row(0, 1)), qs(1, 0))
        self.assertEqual(self.held_to(lines, row(3, -5)), qs(0, 1))
        for line in (row(-3, 7), row(6, -11), row(1, 0), row(2, -1), row(0, 0)):
            self.none_of(lines, line)

    def test_three_lines(self):
        self.assertEqual(self.held_to(TRIANGLE, row(1, 1)), qs("1/2", "1/4", "1/4"))
        self.assertEqual(self.held_to(TRIANGLE, row(2, 2)), qs(0, "1/2", "1/2"))
        self.assertEqual(self.held_to(TRIANGLE, row(0, 1)), qs("3/4", 0, "1/4"))
        self.assertEqual(self.held_to(TRIANGLE[::-1], row(1, 2)), qs("1/2", "1/4", "1/4"))
        for line in (row(-1, 1), row(1, -1), row(3, 2), row(5, 0), row(0, 5), row(-1, 0), row(0, -1), row(-1, -1)):
            self.none_of(TRIANGLE, line)

    def test_three_lines_the_other_way_about_and_next_to_one_another(self):
        for lines in (lines_at((0, 0), (1, 0), (0, 1)), lines_at((0, 0), (0, 1), (1, 0))):
            for order in (lines, lines[1:] + lines[:1], lines[::-1]):
                self.assertEqual(self.held_to(order, row("1/3", "1/3")), qs("1/3", "1/3", "1/3"))
                self.none_of(order, row("2/3", "2/3"))
        small = [(q(num(h) / 1000), q(num(s) / 1000)) for h, s in lines_at((0, 0), (0, 1), (1, 0))]
        self.held_to(small, row("1/3000", "1/3000"))

    def test_a_line_that_is_one_of_them_at_each_place(self):
        for lines in (TRIANGLE, TRIANGLE + lines_at((1, 1), (2, 2)), lines_at(*[(k, k * k) for k in range(30)])):
            for line in lines:
                self.held_to(lines, line)
        # Those on a bow are mixed of no others.
        bow = lines_at(*[(k, k * k) for k in range(30)])
        for k in range(30):
            self.assertEqual(self.held_to(bow, bow[k]), qs(*[int(n == k) for n in range(30)]))

    def test_a_little_beside(self):
        by = num(LITTLE)
        for line in TRIANGLE + [row(2, 2), row(0, 1), row(3, 0)]:
            height, slope = map(num, line)
            for up, along in product((-by, 0, by), repeat=2):
                self.either(TRIANGLE, (q(height + up), q(slope + along)))
        self.none_of(TRIANGLE, (q(2 + by), q(2)))
        self.held_to(TRIANGLE, (q(2 - by), q(2)))
        self.none_of(lines_at((0, 0), (1, 1)), (q(1, 2), q(Fraction(1, 2) + by)))

    def test_alike_lines(self):
        for many in (2, 3, 30):
            self.held_to([row(1, 2)] * many, row(1, 2))
            self.none_of([row(1, 2)] * many, row(1, 1))
            self.held_to([row(1, 2)] * (many - 1) + [row(3, 2)], row(2, 2))
            self.held_to([row(3, 2)] + [row(1, 2)] * (many - 1), row(2, 2))
            self.none_of([row(3, 2)] + [row(1, 2)] * (many - 1), row(4, 2))
        self.held_to(TRIANGLE * 10, row(1, 1))
        self.none_of(TRIANGLE * 10, row(3, 3))

    def test_all_on_one_slope(self):
        lines = lines_at(*[((k * 7) % 11, 3) for k in range(11)])
        for height in (0, 10, "1/2", 5, "19/2"):
            self.held_to(lines, row(height, 3))
        for line in (row(-1, 3), row(11, 3), row("21/2", 3), row(5, 4), row(5, "5/2")):
            self.none_of(lines, line)

    def test_all_of_one_height_or_through_one_place(self):
        for lines in (lines_at((3, 0), (3, 5), (3, -2), (3, 1)), lines_at((0, 0), (5, 5), (-2, -2), (1, 1))):
            for part in ("1/2", "-3/2", 4, 5, 1):
                self.held_to(lines, (q(3) if lines[1] == row(3, 5) else q(part), q(part)))
            for line in (row(3, 6), row(3, -3), row(6, 6), row(-3, -3), row(2, 3), row(4, 3)):
                self.either(lines, line)

    def test_all_mixed_of_two(self):
        ends = lines_at((-3, 5), (9, 1))
        parts = [Fraction(k, 28) for k in range(1, 29)]
        lines = ends + [tuple(q(num(a) * (1 - part) + num(b) * part) for a, b in zip(*ends)) for part in parts]
        for order in (lines, lines[::-1], lines[2:] + lines[:2]):
            self.held_to(order, row(3, 3))
            self.held_to(order, row(-3, 5))
            for line in (row(-6, 6), row(12, 0), row(3, 4), row(2, 3)):
                self.none_of(order, line)

    def test_only_far_ones_hold_it(self):
        # Seen from the first line, it lies between the last one and the one in the middle.
        lines = lines_at((0, 0), (1, 0), (1, "1/2"), (10, 3), (2, 0), (2, 1), (10, 9))
        self.held_to(lines, row(9, 5))
        self.held_to(lines[::-1], row(9, 5))
        self.none_of(lines, row(9, 9))


class Any(Mixing):

    def test_lines_of_a_small_grid(self):
        chance = random.Random(1101)
        told = 0
        for _ in range(400):
            lines = [(samples.whole(chance, 2), samples.whole(chance, 2)) for _ in range(chance.randint(1, 6))]
            told += self.either(lines, (samples.whole(chance, 2), samples.whole(chance, 2)))
        self.assertTrue(50 < told < 350, told)

    def test_lines_of_small_fractions(self):
        chance = random.Random(1102)
        told = 0
        for _ in range(150):
            lines = [samples.small_line(chance) for _ in range(chance.choice([1, 2, 3, 5, 12]))]
            told += self.either(lines, samples.small_line(chance))
        self.assertTrue(20 < told < 130, told)

    def test_mixtures_of_any_lines(self):
        chance = random.Random(1103)
        for many in (1, 2, 3, 4, 7, 15, 30):
            for _ in range(4):
                lines = [samples.small_line(chance) for _ in range(many)]
                self.held_to(lines, model.mixed(lines, samples.shares(chance, many)))

    def test_thirty_lines(self):
        chance = random.Random(1104)
        for _ in range(3):
            lines = [samples.small_line(chance) for _ in range(30)]
            for line in [samples.small_line(chance) for _ in range(3)] + [row(40, 0), row(0, -9), row(-1, 30)]:
                self.either(lines, line)

    def test_long_lines(self):
        chance = random.Random(1105)
        for many in (1, 2, 3, 8, 30):
            lines = [samples.long_line(chance) for _ in range(many)]
            self.held_to(lines, lines[-1])
            self.held_to(lines, mixed(lines, samples.shares(chance, many)))
            self.none_of(lines, (q(10 ** 70), lines[0][1]))
            self.none_of(lines, (lines[0][0], q(-(10 ** 70))))

    def test_in_another_order(self):
        chance = random.Random(1106)
        for _ in range(60):
            lines = [(samples.whole(chance, 3), samples.whole(chance, 3)) for _ in range(6)]
            line = (samples.whole(chance, 2), samples.whole(chance, 2))
            truth = self.either(lines, line)
            for _ in range(3):
                self.assertEqual(self.either(chance.sample(lines, 6), line), truth)


class Corners(Mixing):

    def test_a_line_is_best_just_where_it_is_a_mixture_of_the_corners(self):
        chance = random.Random(1107)
        for points, prices in samples.priced(1108, 2):
            found = corners(points, prices)
            if len(found) <= 30:
                best = mixed(found, samples.shares(chance, len(found)))
                height, slope = map(num, best)
                lines = [best, (q(height + num(LITTLE)), q(slope)), (q(height), q(slope - num(LITTLE)))]
                for line in lines + [samples.small_line(chance)] + model.pair_lines(points)[:4]:
                    truth = is_best(points, prices, line)
                    self.assertEqual(shares_of(found, line) is not None, truth, (points, prices, line))
                    if truth:
                        self.held_to(found, line)

    def test_no_line_about_all_corners_is_left_out(self):
        square = [row(0, 0, 1), row(0, 2, 1), row(1, 0, 1), row(1, 2, 1)]
        found = corners(square, row(1, 1))
        self.assertEqual(found, lines_at((0, 0), (0, 2), (2, -2), (2, 0)))
        for line in (row(1, 0), row(1, 1), row(0, 1), row("1/3", "1/3"), row(2, -1)):
            self.held_to(found, line)
        for line in (row(0, "-1/9"), row("19/9", 0), row(2, "1/9"), row("1/2", -1)):
            self.none_of(found, line)


class Refusals(Mixing):

    def test_lines_ahead_of_the_line(self):
        for wrong in wrongs.wrong_list_of_lines():
            self.refused("NoLines", shares_of, wrong, row(1, 1))
            self.refused("NoLines", shares_of, wrong, None)
        for wrong in wrongs.wrong_lines():
            for lines in (TRIANGLE, [row(1, 1)], TRIANGLE * 10):
                self.refused("NoLine", shares_of, lines, wrong)

    def test_the_line_is_no_list_even_if_it_is_in_the_list(self):
        self.refused("NoLine", shares_of, TRIANGLE, list(TRIANGLE[0]))
        self.refused("NoLines", shares_of, [list(TRIANGLE[0])], TRIANGLE[0])

    def test_one_to_thirty_lines(self):
        for many in range(33):
            lines = [row(k, k * k) for k in range(many)]
            if 1 <= many <= 30:
                self.held_to(lines, row(0, 0))
            else:
                self.refused("NoLines", shares_of, lines, row(0, 0))


class InItsPlace(Mixing):

    def test_the_very_list_changed_and_handed_in_again(self):
        lines = list(TRIANGLE)
        told = shares_of(lines, row(1, 1))
        spoilt(told)
        self.assertEqual(shares_of(lines, row(1, 1)), qs("1/2", "1/4", "1/4"))
        lines[0] = row(2, 1)
        self.none_of(lines, row(1, 1))
        self.assertIsNotNone(self.held_to(copy.deepcopy(lines), row(2, "3/2")))
        lines.append(row(0, 0))
        self.held_to(lines, row(1, 1))
        lines[1:3] = []
        self.none_of(lines, row(2, 2))
        lines[0] = None
        self.refused("NoLines", shares_of, lines, row(1, 1))


if __name__ == "__main__":
    unittest.main()
