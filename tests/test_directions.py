"""Point 24: the first direction of which some stripe has the least sum of true distances, and its stripes."""

import copy
import random
import unittest
from fractions import Fraction

from signlines.directions import nearest_stripe
from signlines.points import stretched
from signlines.rows import middles
from tests import model, samples, wrongs
from tests.helpers import Case, num, pts, q, row

LITTLE = Fraction(1, 10 ** 40)


def square_of(points, direction, number):
    """The square of the sum of weights times true distances from the stripe of that number."""
    a, b = map(num, direction)
    away = sum(w * abs(a * x + b * y - number) for x, y, w in model.numbers(points))
    return away ** 2 / (a ** 2 + b ** 2)


def stripes_through(points, direction):
    a, b = map(num, direction)
    return sorted({a * x + b * y for x, y, w in model.numbers(points)})


def nearest(points, directions):
    """(k, least, greatest, square), by going through each direction and each stripe through a point."""
    lots = []
    for k, direction in enumerate(directions):
        for number in stripes_through(points, direction):
            lots.append((square_of(points, direction, number), k, number))
    square, first, _ = min(lots)
    best = [number for here, k, number in lots if here == square and k == first]
    return first, q(min(best)), q(max(best)), q(square)


def some_directions(chance, many):
    found = []
    while len(found) < many:
        a, b = chance.choice([(samples.whole(chance, 2), samples.whole(chance, 2)), samples.small_line(chance)])
        if (a, b) != (q(0), q(0)):
            found.append((a, b))
    return found


def all_points(seed, each=2):
    """Points, spread and not, of every make."""
    chance = random.Random(seed)
    found = [make(chance, many) for make in samples.MAKERS for many in (1, 2, 3, 5, 12) for _ in range(each)]
    found += [pts((1, 1)), pts((1, 1), (1, 1)), pts((1, 0), (1, 2)), pts((1, 0), (1, 2), (1, 9, "1/3")) * 4]
    return found


class Told(Case):

    def held_to(self, points, directions):
        """The told stripes, held against each direction and each stripe through a point."""
        told = self.asked(nearest_stripe, points, directions)
        self.assertIsInstance(told, tuple)
        self.assertIs(told[0].__class__, int)
        self.assertEqual(told, nearest(points, directions), (points, directions))
        k, least, greatest, square = told[0], num(told[1]), num(told[2]), num(told[3])
        self.assertEqual(told[1:], (q(least), q(greatest), q(square)))
        for number in (least, greatest, (least + greatest) / 2):
            self.assertEqual(square_of(points, directions[k], number), square)
        for number in (least - LITTLE, greatest + LITTLE, least - 3, greatest + 3):
            self.assertGreater(square_of(points, directions[k], number), square)
        return told

    def known(self, points, directions, *wanted):
        k, least, greatest, square = self.held_to(points, directions)
        self.assertEqual((k, least, greatest, square), (wanted[0],) + tuple(q(number) for number in wanted[1:]))

    def test_known_ones(self):
        points = pts((0, 0), (4, 1), (8, 0))
        self.known(points, [row(0, 1)], 0, 0, 0, 1)
        self.known(points, [row(1, 0)], 0, 4, 4, 64)
        self.known(points, [row(1, 0), row(0, 1)], 1, 0, 0, 1)
        self.known(points, [row(0, 1), row(1, 0)], 0, 0, 0, 1)
        self.known(points, [row(1, 0), row(1, 1), row(1, -1)], 1, 5, 5, 32)
        self.known(points, [row(1, 0), row(1, -1), row(1, 1)], 1, 3, 3, 32)
        self.known(points, [row(0, "-1/2")], 0, 0, 0, 1)
        self.known(points, [row(3, 4)], 0, 16, 16, Fraction(24 * 24, 25))

    def test_true_distances_and_not_the_numbers_of_the_stripes(self):
        # Along (10, 0) the numbers lie ten times as far apart, along (1/10, 0) next to one another.
        points = pts((0, 0), (2, 1))
        self.known(points, [row(10, 0), row(0, "1/10")], 1, 0, "1/10", 1)
        self.known(points, [row(0, "1/10"), row(10, 0)], 0, 0, "1/10", 1)
        self.known(points, [row("1/100", 0), row(0, 10)], 1, 0, 10, 1)
        self.known(pts((0, 0), (1, 1)), [row(1, 0), row(1, 1)], 0, 0, 1, 1)
        self.known(pts((0, 0), (1, 1)), [row(1, 1), row(0, 5)], 1, 0, 5, 1)

    def test_the_first_of_those_that_are_as_near(self):
        points = pts((0, 0), (1, 1), (5, 5), (2, 0))
        one, other = row(1, -1), row(-3, 3)
        self.assertEqual(self.held_to(points, [one, other])[0], 0)
        self.assertEqual(self.held_to(points, [other, one])[0], 0)
        self.assertEqual(self.held_to(points, [row(1, 0), other, one, one])[0], 1)
        self.assertEqual(self.held_to(points, [row(1, 0), one, one, other] * 2)[0], 1)
        self.assertEqual(self.held_to(pts((0, 0), (1, 1)), [row(0, 1), row(1, 0)])[0], 0)
        self.assertEqual(self.held_to(pts((0, 0), (1, 1)), [row(1, 0), row(0, 1)])[0], 0)
        self.assertEqual(self.held_to(pts((3, 4, 5)), [row(2, 7), row(1, 0), row(0, 1)])[0], 0)

    def test_multiples_tell_one_square(self):
        chance = random.Random(2401)
        for points in all_points(2402, 1):
            a, b = some_directions(chance, 1)[0]
            squares = []
            for part in (1, -1, Fraction(1, 7), -50, Fraction(10 ** 40, 3)):
                direction = (q(num(a) * part), q(num(b) * part))
                k, least, greatest, square = self.held_to(points, [direction])
                squares.append(square)
            self.assertEqual(len(set(squares)), 1)

    def test_all_points_on_one_stripe(self):
        points = pts((0, 3), (1, 1), (2, -1, 5), (5, -7))
        self.known(points, [row(2, 1)], 0, 3, 3, 0)
        self.known(points, [row(1, 0), row(4, 2), row(2, 1)], 1, 6, 6, 0)
        self.known(points, [row(-1, "-1/2")], 0, "-3/2", "-3/2", 0)
        self.known(pts((2, 0), (2, 5), (2, -1)), [row(0, 1), row(3, 0)], 1, 6, 6, 0)
        self.known(pts((2, 5), (7, 5)), [row(0, 1), row(3, 0)], 0, 5, 5, 0)

    def test_one_stripe_and_many_between_two(self):
        self.known(pts((0, 0), (0, 3)), [row(0, 2)], 0, 0, 6, 9)
        self.known(pts((0, 0), (0, 3), (0, 1)), [row(0, 2)], 0, 2, 2, 9)
        self.known(pts((0, 0), (0, 3, 2)), [row(0, 2)], 0, 6, 6, 9)
        self.known(pts((0, 0), (0, 3), (0, 1), (0, 2)), [row(0, -1)], 0, -2, -1, 16)

    def test_one_point_and_points_of_one_x(self):
        self.known(pts((3, 4, 7)), [row(1, 1)], 0, 7, 7, 0)
        self.known(pts((3, 4), (3, 4)), [row(1, -1)], 0, -1, -1, 0)
        self.known(pts((3, 4), (3, 6, "1/2")), [row(0, 1)], 0, 4, 4, 1)
        self.known(pts((3, 4), (3, 6)), [row(0, 1), row(1, 1)], 1, 7, 9, 2)

    def test_the_weights_have_their_part(self):
        points = pts((0, 0, 9), (1, 0, 9), (0, 7))
        self.known(points, [row(1, 0), row(0, 1)], 1, 0, 0, 49)
        self.known(pts((0, 0, 9), (1, 0, 9), (0, 7, 2)), [row(1, 0), row(0, 1)], 0, 0, 0, 81)

    def test_any(self):
        chance = random.Random(2403)
        for points in all_points(2404):
            for many in (1, 2, 5, 8):
                self.held_to(points, some_directions(chance, many))

    def test_long_ones(self):
        chance = random.Random(2405)
        for many in (1, 3, 5):
            points = samples.long_ones(chance, many)
            self.held_to(points, [samples.long_line(chance) for _ in range(3)])
            self.held_to(points, [samples.long_line(chance), row(1, 0)])
        # The squares of twelve are longer than Python itself writes numbers.
        points, directions = samples.long_ones(chance, 12), [samples.long_line(chance) for _ in range(8)]
        self.assertTrue(nearest_stripe(points, directions) == nearest(points, directions))

    def test_as_the_middles_of_the_stripes_numbers(self):
        chance = random.Random(2406)
        for points in all_points(2407, 1):
            directions = some_directions(chance, 4)
            k, least, greatest, square = nearest_stripe(points, directions)
            a, b = map(num, directions[k])
            values = [(q(a * num(x) + b * num(y)), w) for x, y, w in points]
            self.assertEqual(middles(values, row(1, 1)), (least, greatest))

    def test_all_stretched_alike_and_in_another_order(self):
        chance = random.Random(2408)
        for points in all_points(2409, 1):
            directions = some_directions(chance, 3)
            k, least, greatest, square = nearest_stripe(points, directions)
            wanted = (k, q(num(least) * 3), q(num(greatest) * 3), q(num(square) * 9))
            self.assertEqual(nearest_stripe(stretched(points, q(3), q(3)), directions), wanted)
            turned = [(q(-num(y)), x, w) for x, y, w in points]
            along = [(q(-num(b)), a) for a, b in directions]
            self.assertEqual(nearest_stripe(turned, along), (k, least, greatest, square))
            other = chance.sample(points, len(points))
            self.assertEqual(nearest_stripe(other, directions), (k, least, greatest, square))


class Refusals(Case):

    def test_no_directions(self):
        points = pts((1, 0), (1, 2))
        for wrong in wrongs.wrong_directions():
            self.refused("NoDirections", nearest_stripe, points, wrong)
            self.refused("NoPoints", nearest_stripe, [], wrong)

    def test_one_to_eight(self):
        for many in range(12):
            directions = [row(k + 1, many) for k in range(many)]
            if 1 <= many <= 8:
                self.asked(nearest_stripe, pts((0, 0), (1, 2)), directions)
            else:
                self.refused("NoDirections", nearest_stripe, pts((0, 0), (1, 2)), directions)

    def test_both_nought_at_any_place(self):
        for many in (1, 2, 8):
            for at in range(many):
                directions = wrongs.with_part([row(1, k) for k in range(many)], at, row(0, 0))
                self.refused("NoDirections", nearest_stripe, pts((0, 0), (1, 2)), directions)

    def test_one_nought_is_let(self):
        for direction in (row(0, 1), row(1, 0), row(0, "-1/9"), row("-1/9", 0)):
            self.assertEqual(self.asked(nearest_stripe, pts((0, 0)), [direction]), (0, q(0), q(0), q(0)))


class InItsPlace(Case):

    def test_the_very_lists_changed_and_handed_in_again(self):
        chance = random.Random(2411)
        points, directions = [], []
        for other in all_points(2412, 1):
            points[:], directions[:] = other, some_directions(chance, 3)
            self.assertEqual(nearest_stripe(points, directions),
                             nearest_stripe(copy.deepcopy(other), copy.deepcopy(directions)))
            points[0] = row(40, -7, 9)
            self.assertEqual(nearest_stripe(points, directions), nearest(points, directions))
            directions.reverse()
            self.assertEqual(nearest_stripe(points, directions), nearest(points, directions))
            directions[1] = row(0, 0)
            self.refused("NoDirections", nearest_stripe, points, directions)


if __name__ == "__main__":
    unittest.main()
