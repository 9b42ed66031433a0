"""Points 3 and 25: kept points, the roads that their changes tell, and what is undone."""

import copy
import inspect
import random
import unittest

from signlines.best import is_best, least_cost
from signlines.kept import Kept
from signlines.lines import cost
from signlines.roads import is_road
from tests import model_roads, samples, wrongs
from tests.helpers import Changing, pts, row, spoilt

PRICES = row(1, 2)
SOME = pts((0, 0), (1, "1/2", 2), (3, -1, "1/3"), (1, 5))


def kept_with(points, prices=PRICES):
    """Kept points, so many put one by one."""
    found = Kept(prices)
    for point in points:
        found.put(*point)
    return found


class Follows(Changing):
    """Kept points, held step by step against a plain list and the lines that the roads led to."""

    def begun(self, prices):
        self.prices = prices
        self.kept = Kept(copy.deepcopy(prices))
        self.points = []
        self.line = None
        self.past = []
        self.held()

    def held(self):
        """What is told now is what it should be, and changing it changes nothing."""
        told = self.kept.points()
        self.assertIsInstance(told, list)
        self.assertEqual(told, self.points)
        self.assertEqual(self.kept.line(), self.line)
        spoilt(told)
        told.clear()
        self.assertEqual(self.kept.points(), self.points)
        if self.line is not None:
            self.assertIs(is_best(self.points, self.prices, self.line), True)

    def changed(self, points, ask, *args):
        """A change: it tells a road of the points as they are then."""
        handed = repr(args)
        told = ask(*args)
        self.assertEqual(repr(args), handed)
        self.assertIsInstance(told, list)
        self.past.append((self.points, self.line))
        self.points = points
        if samples.is_spread(points):
            self.assertTrue(model_roads.is_road(points, self.prices, told), (points, self.prices, told))
            self.assertIs(is_road(points, self.prices, told), True)
            self.assertEqual(cost(points, self.prices, told[-1]), least_cost(points, self.prices))
            self.line = told[-1]
        else:
            self.assertEqual(told, [])
            self.line = None
        spoilt(told) if told else told.append("spoilt")
        self.held()

    def put(self, *point):
        self.changed(self.points + [point], self.kept.put, *point)

    def take(self, k):
        self.changed(self.points[:k] + self.points[k + 1:], self.kept.take, k)

    def move(self, k, *point):
        self.changed(wrongs.with_part(self.points, k, point), self.kept.move, k, *point)

    def undo(self):
        self.assertIsNone(self.kept.undo())
        self.points, self.line = self.past.pop()
        self.held()

    def refuses(self, name, ask, *args):
        self.refused(name, ask, *args)
        self.held()


class Changes(Follows):

    def test_none_at_first(self):
        self.begun(PRICES)
        self.assertEqual(self.kept.points(), [])
        self.assertIsNone(self.kept.line())

    def test_known_ones(self):
        kept = Kept(row(1, 1))
        self.assertEqual(kept.put(*row(0, 0, 1)), [])
        self.assertIsNone(kept.line())
        self.assertEqual(kept.put(*row(1, 1, 1)), [row(0, 1)])
        self.assertEqual(kept.line(), row(0, 1))
        self.assertEqual(kept.put(*row(2, 2, 5))[-1], row(0, 1))
        kept.put(*row(2, -7, 1))
        self.assertEqual(kept.points(), pts((0, 0), (1, 1), (2, 2, 5), (2, -7)))
        self.assertEqual(kept.line(), row(0, 1))
        self.assertEqual(kept.move(1, *row(1, 2, 7))[-1], row(2, 0))
        self.assertEqual(kept.points(), pts((0, 0), (1, 2, 7), (2, 2, 5), (2, -7)))
        self.assertEqual(kept.line(), row(2, 0))
        self.assertEqual(kept.take(1)[-1], row(0, 1))
        self.assertEqual(kept.points(), pts((0, 0), (2, 2, 5), (2, -7)))
        self.assertIsNone(kept.undo())
        self.assertEqual(kept.points(), pts((0, 0), (1, 2, 7), (2, 2, 5), (2, -7)))
        self.assertEqual(kept.line(), row(2, 0))

    def test_put_behind_all_others(self):
        self.begun(PRICES)
        for point in SOME + SOME[:1]:
            self.put(*point)
        self.assertEqual(self.kept.points(), SOME + SOME[:1])

    def test_taken_out_at_each_place_those_behind_move_down(self):
        for k in range(len(SOME)):
            self.begun(PRICES)
            for point in SOME:
                self.put(*point)
            self.take(k)
            self.assertEqual(self.kept.points(), SOME[:k] + SOME[k + 1:])
            while self.points:
                self.take(len(self.points) - 1 if k % 2 else 0)
            self.assertEqual((self.kept.points(), self.kept.line()), ([], None))

    def test_moved_at_each_place(self):
        for k in range(len(SOME)):
            self.begun(PRICES)
            for point in SOME:
                self.put(*point)
            self.move(k, *row(2, "-7/2", 9))
            self.move(k, *row(1, 0, "1/9"))
            self.move(k, *SOME[k])

    def test_points_that_are_not_spread(self):
        self.begun(PRICES)
        self.put(*row(2, 0, 1))
        self.put(*row(2, 5, 1))
        self.put(*row(2, 5, 1))
        self.assertIsNone(self.kept.line())
        self.move(1, *row(3, 5, 1))
        self.assertIsNotNone(self.kept.line())
        self.move(1, *row(2, 9, 1))
        self.assertIsNone(self.kept.line())
        self.put(*row(0, 0, 1))
        self.take(3)
        self.assertIsNone(self.kept.line())

    def test_any_changes(self):
        chance = random.Random(2501)
        for prices in samples.all_prices(chance):
            for make in samples.MAKERS:
                self.begun(prices)
                for point in make(chance, 5):
                    self.put(*point)
                for _ in range(12):
                    self.some_change(chance, make(chance, 1)[0], ["undo", "undo"] if self.past else [])

    def test_long_ones(self):
        chance = random.Random(2502)
        self.begun(samples.long_prices(chance))
        for point in samples.long_ones(chance, 4):
            self.put(*point)
        self.move(2, *samples.long_ones(chance, 1)[0])
        self.take(0)
        self.undo()
        self.undo()

    def test_the_prices_have_their_part(self):
        square = pts((0, 0), (0, 2), (1, 0), (1, 2))
        self.assertEqual(kept_with(square, row(1, 2)).line(), row(0, 0))
        self.assertEqual(kept_with(square, row(2, 1)).line(), row(2, 0))

    def test_the_same_changes_tell_the_same(self):
        chance = random.Random(2503)
        points = samples.fractions(chance, 9)
        one, other = Kept(PRICES), Kept(PRICES)
        for point in points:
            self.assertEqual(one.put(*point), other.put(*copy.deepcopy(point)))
        for k in (3, 0, 5):
            self.assertEqual(one.take(k), other.take(k))
        self.assertEqual((one.points(), one.line()), (other.points(), other.line()))


class TwelvePoints(Follows):

    def test_a_thirteenth_is_refused(self):
        chance = random.Random(2511)
        for make in (samples.grid, samples.mostly_on_a_line, samples.fractions):
            self.begun(PRICES)
            points = make(chance, 14)
            for point in points[:12]:
                self.put(*point)
            for point in points[12:]:
                self.refuses("NoPoints", self.kept.put, *point)
            self.refuses("NoPoints", self.kept.put, *row(1, 1, 0))
            self.move(11, *points[12])
            self.move(0, *points[13])
            self.refuses("NoPoints", self.kept.put, *points[0])
            self.take(5)
            self.put(*points[5])
            self.refuses("NoPoints", self.kept.put, *points[0])
            self.undo()
            self.put(*points[0])
            self.refuses("NoNumber", self.kept.take, 12)

    def test_twelve_of_one_x(self):
        self.begun(PRICES)
        for k in range(12):
            self.put(*row(5, k, 1))
        self.refuses("NoPoints", self.kept.put, *row(6, 0, 1))
        self.assertIsNone(self.kept.line())


class Undone(Follows):

    def test_nothing_to_undo(self):
        self.begun(PRICES)
        self.refuses("NoDeed", self.kept.undo)
        self.refuses("NoDeed", self.kept.undo)
        self.put(*row(0, 0, 1))
        self.undo()
        self.refuses("NoDeed", self.kept.undo)

    def test_a_put_a_take_a_move(self):
        self.begun(PRICES)
        for point in SOME:
            self.put(*point)
        self.put(*row(7, 70, 5))
        self.undo()
        self.take(1)
        self.undo()
        self.take(0)
        self.undo()
        self.take(3)
        self.undo()
        self.move(2, *row(-5, 90, 5))
        self.undo()
        self.assertEqual(self.kept.points(), SOME)

    def test_several_in_a_row_back_to_none(self):
        self.begun(PRICES)
        for point in SOME:
            self.put(*point)
        self.take(2)
        self.move(0, *row(7, 7, 7))
        self.move(1, *row(8, 0, 7))
        self.take(0)
        for _ in range(8):
            self.undo()
        self.assertEqual((self.kept.points(), self.kept.line()), ([], None))
        self.refuses("NoDeed", self.kept.undo)

    def test_other_changes_behind_what_is_undone(self):
        self.begun(PRICES)
        for point in SOME:
            self.put(*point)
        self.take(0)
        self.undo()
        self.undo()
        self.move(0, *row(4, 4, 4))
        self.put(*row(9, 9, 9))
        for _ in range(5):
            self.undo()
        self.refuses("NoDeed", self.kept.undo)

    def test_the_line_ahead_of_the_change_though_others_are_best(self):
        for changes in range(4):
            self.begun(row(1, 1))
            for point in pts((0, 0), (0, 2), (1, 2), (1, 0)):
                self.put(*point)
                self.put(*row(5, 50, 90))
                self.undo()
            line = self.kept.line()
            for k in range(changes):
                self.move(k, *row(k, 9 * k, 5))
            for k in range(changes):
                self.undo()
            self.assertEqual(self.kept.line(), line)

    def test_what_was_refused_is_no_change(self):
        self.begun(PRICES)
        self.put(*SOME[0])
        self.put(*SOME[1])
        self.refuses("NoPoints", self.kept.put, *row(1, 1, 0))
        self.refuses("NoNumber", self.kept.take, 2)
        self.refuses("NoPoints", self.kept.move, 0, *row(1, 1, -1))
        self.undo()
        self.assertEqual(self.kept.points(), SOME[:1])
        self.undo()
        self.refuses("NoDeed", self.kept.undo)


class Refusals(Follows):

    def setUp(self):
        self.begun(PRICES)
        for point in SOME:
            self.put(*point)

    def test_no_prices(self):
        for wrong in wrongs.wrong_prices():
            self.refused("NoPrices", Kept, wrong)

    def test_no_point_at_each_place(self):
        right = row(1, 2, 3)
        for at in range(3):
            for wrong in wrongs.NO_FRACTIONS + (wrongs.NOT_ABOVE_NOUGHT if at == 2 else []):
                self.refused("NoPoints", self.kept.put, *wrongs.with_part(right, at, wrong))
                self.refused("NoPoints", self.kept.move, 0, *wrongs.with_part(right, at, wrong))
                self.refused("NoPoints", self.kept.move, 3, *wrongs.with_part(right, at, wrong))
        for wrong in (None, True, 5, "text", right, [right]):
            self.refused("NoPoints", self.kept.put, wrong, wrong, wrong)
        self.held()
        self.assertEqual(len(self.past), 4)

    def test_no_point_where_none_are(self):
        kept = Kept(PRICES)
        self.refused("NoPoints", kept.put, *row(1, 1, 0))
        self.assertEqual((kept.points(), kept.line()), ([], None))
        self.refused("NoDeed", kept.undo)

    def test_no_number(self):
        for wrong in wrongs.NO_NUMBERS + [4, 5, 12, -4]:
            self.refused("NoNumber", self.kept.take, wrong)
            self.refused("NoNumber", self.kept.move, wrong, *row(1, 1, 1))
            self.refused("NoNumber", self.kept.move, wrong, *row(1, 1, 0))
            self.refused("NoNumber", self.kept.move, wrong, None, 5, "text")
        self.held()
        self.undo()
        self.refuses("NoNumber", self.kept.take, 3)
        self.refuses("NoNumber", self.kept.move, 3, *row(1, 1, 1))

    def test_no_number_where_no_points_are(self):
        kept = Kept(PRICES)
        for wrong in wrongs.NO_NUMBERS + [0, 1]:
            self.refused("NoNumber", kept.take, wrong)
            self.refused("NoNumber", kept.move, wrong, *row(1, 1, 1))
            self.refused("NoNumber", kept.move, wrong, *row(1, 1, 0))
        self.assertEqual((kept.points(), kept.line()), ([], None))


class Apart(Follows):

    def test_two_kept_lots_change_nothing_of_one_another(self):
        one, other = kept_with(SOME), kept_with(SOME[::-1], row(5, 1))
        line = other.line()
        one.move(0, *row(9, 9, 9))
        one.take(1)
        one.put(*row(7, 7, 7))
        self.assertEqual((other.points(), other.line()), (SOME[::-1], line))
        for _ in range(7):
            one.undo()
        self.refused("NoDeed", one.undo)
        self.assertEqual((other.points(), other.line()), (SOME[::-1], line))
        third = Kept(PRICES)
        self.assertEqual((third.points(), third.line()), ([], None))
        self.refused("NoDeed", third.undo)

    def test_told_lists_are_the_askers_own(self):
        kept = Kept(PRICES)
        roads = [kept.put(*point) for point in SOME]
        line, alone = kept.line(), kept.points()
        for told in roads + [kept.move(0, *SOME[0]), kept.points(), alone]:
            told.append("spoilt")
            told[0] = None
        self.assertEqual((kept.points(), kept.line()), (SOME, line))
        kept.undo()
        self.assertEqual((kept.points(), kept.line()), (SOME, line))
        kept.take(0)
        later = kept.points()
        later.clear()
        kept.undo()
        self.assertEqual((kept.points(), kept.line()), (SOME, line))
        self.assertEqual(alone[1:], SOME[1:] + ["spoilt"])

    def test_points_told_are_handed_in_again(self):
        kept = kept_with(SOME)
        points = kept.points()
        kept.put(*row(9, 9, 9))
        self.assertEqual(points, SOME)
        self.assertEqual(least_cost(points, PRICES), least_cost(SOME, PRICES))

    def test_the_class_itself_defines_each_method(self):
        self.assertEqual((Kept.__module__, Kept.__name__), ("signlines.kept", "Kept"))
        wanted = {"put": 4, "take": 2, "move": 5, "undo": 1, "points": 1, "line": 1}
        for name, many in wanted.items():
            self.assertTrue(inspect.isfunction(Kept.__dict__[name]), name)
            inspect.signature(Kept.__dict__[name]).bind(*range(many))


if __name__ == "__main__":
    unittest.main()
