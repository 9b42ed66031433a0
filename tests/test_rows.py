"""Point 22: rows of values, the numbers that cost least, and the one of least greatest distance."""

import copy
import random
import unittest
from fractions import Fraction
from itertools import combinations

from signlines.bounded import bound_corners
from signlines.rows import is_values, middles, midway
from signlines.widths import width
from tests import samples, wrongs
from tests.helpers import Case, num, pts, q, row, spoilt

LITTLE = Fraction(1, 10 ** 40)


def vals(*rows):
    """Values from numbers, or from tuples of a number and a weight."""
    return [row(*one) if isinstance(one, tuple) else row(one, 1) for one in rows]


def cost(values, prices, number):
    up, down = num(prices[0]), num(prices[1])
    found = Fraction(0)
    for value, weight in values:
        rise = num(value) - number
        found += num(weight) * (up * rise if rise > 0 else -down * rise)
    return found


def far(values, number):
    """The greatest of weights times distances from the number."""
    return max(num(weight) * abs(num(value) - number) for value, weight in values)


def all_values(seed, each=2):
    """Values of every make: whole ones, small fractions, alike ones, long ones; with prices."""
    chance = random.Random(seed)
    found = []
    for many in (1, 2, 3, 4, 7, 24):
        for _ in range(each):
            some = [samples.small(chance) for _ in range(2)]
            found.append([(samples.whole(chance, 3), q(1)) for _ in range(many)])
            found.append([(samples.small(chance), samples.weight(chance)) for _ in range(many)])
            found.append([(chance.choice(some), samples.weight(chance)) for _ in range(many)])
    priced = [(values, samples.some_prices(chance)) for values in found]
    for many in (1, 2, 5, 24):
        values = [(samples.long_number(chance), samples.long_weight(chance)) for _ in range(many)]
        priced.append((values, samples.long_prices(chance)))
    return priced


class Values(Case):

    def test_values(self):
        for values, _ in all_values(2201):
            self.told_truth(True, is_values, values)
        self.told_truth(True, is_values, vals(0, 0, ("-1/2", "1/9")))

    def test_one_to_twenty_four(self):
        for many in range(30):
            self.told_truth(1 <= many <= 24, is_values, vals(*[(k, k + 1) for k in range(many)]))
            self.told_truth(1 <= many <= 24, is_values, vals(*[5] * many))

    def test_no_values(self):
        for wrong in wrongs.wrong_values():
            self.told_truth(False, is_values, wrong)
        self.told_truth(False, is_values, pts((0, 0), (1, 1)))
        self.told_truth(False, is_values, [q(1), q(2)])

    def test_the_weight_is_above_nought(self):
        for weight, truth in [(q(1, 10 ** 59), True), (q(0), False), (q(-1, 10 ** 59), False), (q(-1), False)]:
            for at in range(3):
                self.told_truth(truth, is_values, wrongs.with_part(vals(0, 1, 2), at, (q(0), weight)))
                self.told_truth(True, is_values, wrongs.with_part(vals(0, 1, 2), at, (weight, q(1))))


class Middles(Case):

    def held_to(self, values, prices):
        """Told middles, held against all values and numbers a little beside."""
        told = self.asked(middles, values, prices)
        self.assertIsInstance(told, tuple)
        least, greatest = map(num, told)
        self.assertEqual(told, (q(least), q(greatest)))
        costs = {num(value): cost(values, prices, num(value)) for value, _ in values}
        best = [value for value, here in costs.items() if here == min(costs.values())]
        self.assertEqual((least, greatest), (min(best), max(best)))
        for number in (least, greatest, (least + greatest) / 2, (least * 2 + greatest) / 3):
            self.assertEqual(cost(values, prices, number), min(costs.values()))
        for number in (least - LITTLE, greatest + LITTLE, least - 7, greatest + 7):
            self.assertGreater(cost(values, prices, number), min(costs.values()))
        return told

    def test_known_ones(self):
        for values, prices, told in [
            (vals(5), row(1, 2), (5, 5)), (vals(1, 2), row(1, 1), (1, 2)), (vals(2, 1), row(1, 2), (1, 1)),
            (vals(1, 2), row(2, 1), (2, 2)), (vals(3, 1, 2), row(1, 1), (2, 2)), (vals(1, 2, 3), row(1, 2), (1, 2)),
            (vals(1, 2, 3), row(2, 1), (2, 3)), (vals(1, 2, 3), row(9, 1), (3, 3)), (vals(1, 2, 3), row(1, 9), (1, 1)),
            (vals(1, 2, 3, 4), row(1, 1), (2, 3)), (vals(1, 2, 2, 4), row(1, 1), (2, 2)),
            (vals(7, 7, 7), row(1, 5), (7, 7)),
            (vals((1, 3), 2, 3), row(1, 1), (1, 1)), (vals((1, 2), 2, 3), row(1, 1), (1, 2)),
            (vals(("-1/2", 2), ("1/3", 1), ("1/2", 1)), row(1, 1), ("-1/2", "1/3")),
        ]:
            self.assertEqual(self.held_to(values, prices), (q(told[0]), q(told[1])))

    def test_compared_as_numbers(self):
        self.assertEqual(self.held_to(vals("1/2", "1/3", "2/5"), row(1, 1)), (q("2/5"), q("2/5")))
        self.assertEqual(self.held_to(vals("-1/2", "-1/3"), row(1, 1)), (q("-1/2"), q("-1/3")))

    def test_alike_values(self):
        for many in (2, 3, 24):
            self.assertEqual(self.held_to(vals(*["-7/3"] * many), row(1, 2)), (q("-7/3"), q("-7/3")))
            self.assertEqual(self.held_to(vals(*[9] * (many - 1), 1), row(1, many)), (q(1), q(1)))
        self.assertEqual(self.held_to(vals(*[1, 2] * 12), row(1, 1)), (q(1), q(2)))

    def test_any(self):
        for values, prices in all_values(2202, 3):
            self.held_to(values, prices)

    def test_as_lines_of_slope_nought_do(self):
        chance = random.Random(2203)
        for values, prices in all_values(2204, 2):
            for x in (q(0), samples.small(chance)):
                points = [(x, value, weight) for value, weight in values][:12]
                found = bound_corners(points, prices, (q(0), q(0)))
                self.assertEqual(middles(values[:12], prices), (found[0][0], found[-1][0]))

    def test_in_another_order(self):
        chance = random.Random(2205)
        for values, prices in all_values(2206, 1):
            other = chance.sample(values, len(values))
            self.assertEqual(middles(other, prices), middles(values, prices))
            self.assertEqual(midway(other), midway(values))


class Midway(Case):

    def held_to(self, values):
        """The told number and distance, held against all twos and numbers a little beside."""
        told = self.asked(midway, values)
        self.assertIsInstance(told, tuple)
        number, distance = map(num, told)
        self.assertEqual(told, (q(number), q(distance)))
        self.assertEqual(far(values, number), distance)
        least = Fraction(0)
        for (one, weight), (other, heft) in combinations(values, 2):
            least = max(least, abs(num(one) - num(other)) / (1 / num(weight) + 1 / num(heft)))
        self.assertEqual(distance, least)
        for beside in (number - LITTLE, number + LITTLE, number - 3, number + 3):
            self.assertGreater(far(values, beside), distance)
        return told

    def test_known_ones(self):
        for values, told in [
            (vals(5), (5, 0)), (vals(1, 2), ("3/2", "1/2")), (vals(7, 0, 3), ("7/2", "7/2")), (vals(0, (3, 2)), (2, 2)),
            (vals((0, 2), 3), (1, 2)), (vals(("1/2", "1/3"), ("-1/2", "1/3")), (0, "1/6")), (vals(4, 4, 4), (4, 0)),
            (vals(0, 10, (9, 10)), ("90/11", "90/11")), (vals(0, 10, (9, "1/10")), (5, 5)),
            (vals((3, 5), (3, 1)), (3, 0)),
        ]:
            self.assertEqual(self.held_to(values), (q(told[0]), q(told[1])))

    def test_a_distance_of_nought(self):
        for many in (1, 2, 24):
            values = vals(*[("-7/3", k + 1) for k in range(many)])
            self.assertEqual(self.held_to(values), (q("-7/3"), q(0)))

    def test_the_farthest_two_at_each_place(self):
        for at in range(24):
            values = wrongs.with_part(vals(*[k % 3 for k in range(24)]), at, row(-20, 3))
            self.held_to(values)
            self.held_to(wrongs.with_part(values, (at + 7) % 24, row(50, "1/2")))

    def test_any(self):
        for values, _ in all_values(2211, 3):
            self.held_to(values)

    def test_as_wide_as_a_line_of_slope_nought(self):
        for values, _ in all_values(2212, 1):
            number, distance = midway(values)
            points = [(q(3), value, weight) for value, weight in values]
            if len(points) <= 12:
                self.assertEqual(width(points, (number, q(0))), distance)


class Refusals(Case):

    def test_no_values(self):
        for wrong in wrongs.wrong_values():
            self.refused("NoValues", middles, wrong, row(1, 1))
            self.refused("NoValues", middles, wrong, None)
            self.refused("NoValues", midway, wrong)

    def test_one_to_twenty_four(self):
        for many in (0, 25, 26, 48):
            self.refused("NoValues", middles, vals(*range(many)), row(1, 1))
            self.refused("NoValues", midway, vals(*range(many)))
        for many in (1, 24):
            self.asked(middles, vals(*range(many)), row(1, 1))
            self.asked(midway, vals(*range(many)))

    def test_no_prices(self):
        for wrong in wrongs.wrong_prices():
            self.refused("NoPrices", middles, vals(1, 2), wrong)


class InItsPlace(Case):

    def test_the_very_list_changed_and_handed_in_again(self):
        values = []
        for other, prices in all_values(2221, 1):
            values[:] = other
            self.assertEqual(middles(values, prices), middles(copy.deepcopy(other), prices))
            self.assertEqual(midway(values), midway(copy.deepcopy(other)))
            values[0] = row(40, 7)
            anew = copy.deepcopy(values)
            self.assertEqual((middles(values, prices), midway(values)), (middles(anew, prices), midway(anew)))
            self.assertEqual(num(midway(values)[1]), far(values, num(midway(values)[0])))
            values[-1] = row(1, 0)
            self.refused("NoValues", midway, values)
            self.refused("NoValues", middles, values, prices)
            spoilt(values)
            self.assertEqual(midway(anew), midway(copy.deepcopy(anew)))


if __name__ == "__main__":
    unittest.main()
