"""The head of the interface and point 2, over every function that has landed."""

import copy
import importlib
import inspect
import unittest

from tests import interface, samples
from tests.helpers import ERRORS, Case, error, pts, q, row, spoilt
from tests.interface import FUNCTIONS, KINDS, refusal, right_things, told_by, wrong_things

SOME_WRONG = {
    "points": [None, [], (), pts((0, 0), (1, 1)) * 7, [row(1, 1)], pts((0, 0), (1, 1, 0)), tuple(pts((0, 0), (1, 1)))],
    "point": [None, row(1, 1), row(1, 1, 0), list(row(1, 1, 1))],
    "other point": [None, row(1, 1), row(1, 1, -1), list(row(1, 1, 1))],
    "prices": [None, row(1, 0), row(-1, 1), row(1), list(row(1, 1))],
    "line": [None, row(1), row(1, 1, 1), list(row(1, 1)), ((2, 4), (1, 1))],
    "fraction": [None, True, 1, (2, 4), (1, 0), [1, 2]],
    "factor": [None, True, 1, (2, 4), (1, 0), (0, 1), [1, 2]],
    "whole": [None, True, "1", (1, 1)],
    "divisor": [None, False, 0, "1", (1, 1)],
    "lines": [None, [], [row(1)], (row(1, 1), row(1, 2), row(1, 3)), [row(1, 1)] * 31],
    "shares": [None, [], [q(1), q(0)], [q(1), q(1), q(-2)], (q(1), q(0), q(0)), [q(1)] * 3],
    "numbers": [None, [], [q(1), q(0)], (q(1), q(0), q(0)), [q(1), 1, q(1)]],
    "part": [None, True, 1, (2, 4), q(0), q(1), q(-1, 2), q(3, 2), [1, 2]],
    "place": [None, row(1), row(1, 1, 1), list(row(1, 1)), ((2, 4), (1, 1))],
    "spots": [None, [], (), [row(1, 1, 1)], [row(1, 1, 1, 0)], [row(1, 1, 1, 1)] * 9, tuple([row(1, 1, 1, 1)])],
    "plane": [None, row(1, 1), row(1, 1, 1, 1), list(row(1, 1, 1)), ((2, 4), (1, 1), (1, 1))],
    "few points": [None, [], (), pts((0, 0), (1, 1)) * 3, [row(1, 1)], pts((0, 0), (1, 1, 0))],
    "one fraction": [None, True, 1, (2, 4), (1, 0), [1, 2], q(3)],
    "other fraction": [None, True, 1, (2, 4), (1, 0), [1, 2]],
    "point's number": [None, True, -1, 3, "0", [0]],
    "bounds": [None, row(1, 0), row("1/2", "1/3"), (None,), [None, None], (None, 1)],
    "values": [None, [], (), [row(1)], [row(1, 0)], [row(1, 1)] * 25, (row(1, 1),)],
    "directions": [None, [], (), [row(1)], [row(0, 0)], [row(1, 1)] * 9, (row(1, 1),)],
    "text": [None, True, 1, q(1), "", "1/1", " 1", b"1"],
    "pair line": [None, row(1), row(1, 1, 1), list(row(1, 1)), ((2, 4), (1, 1))],
}


class Errors(Case):

    def test_there_is_each_class_straight_under_line_error(self):
        top = error("LineError")
        self.assertTrue(issubclass(top, ValueError))
        for name in ERRORS:
            self.assertEqual(error(name).__bases__, (top,), name)
            self.assertEqual(error(name).__name__, name)

    def test_none_is_under_another_one(self):
        for name in ERRORS:
            for other in ERRORS:
                self.assertEqual(issubclass(error(name), error(other)), name == other, (name, other))

    def test_all_are_made_of_a_text(self):
        for name in ERRORS + ["LineError"]:
            self.assertIsInstance(error(name)("a text"), ValueError)
            with self.assertRaises(error("LineError")):
                raise error(name)("a text")

    def test_they_are_defined_in_their_file(self):
        for name in ERRORS + ["LineError"]:
            self.assertEqual(error(name).__module__, "signlines.errors")


class Head(Case):

    def test_each_function_is_defined_in_the_file_that_lists_it(self):
        for name, (module, kinds, _) in FUNCTIONS.items():
            ask = told_by(name)
            self.assertTrue(inspect.isfunction(ask), name)
            self.assertEqual((ask.__module__, ask.__name__), ("signlines." + module, name))

    def test_each_takes_its_arguments_by_their_places(self):
        for name in FUNCTIONS:
            inspect.signature(told_by(name)).bind(*right_things(name))


class Refusals(Case):

    def test_each_wrong_thing_at_each_argument(self):
        for name, (_, kinds, _) in FUNCTIONS.items():
            ask = told_by(name)
            for at, kind in enumerate(kinds):
                for wrong in wrong_things(kind):
                    args = right_things(name)
                    args[at] = wrong
                    self.refused(refusal(kind), ask, *args)

    def test_two_wrong_at_once_are_refused_with_the_first_named(self):
        for name, (_, kinds, _) in FUNCTIONS.items():
            ask = told_by(name)
            for at, kind in enumerate(kinds):
                for later in range(at + 1, len(kinds)):
                    for wrong in SOME_WRONG.get(kind, []):
                        for other in SOME_WRONG.get(kinds[later], [None, 5]):
                            args = right_things(name)
                            args[at], args[later] = wrong, other
                            self.refused(refusal(kind), ask, *args)

    def test_all_wrong_at_once_are_refused_with_the_first_named(self):
        for name, (_, kinds, _) in FUNCTIONS.items():
            for wrong in (None, True, "text", {}, 5):
                if KINDS[kinds[0]][2] is not None and not (kinds[0] == "whole" and wrong == 5):
                    self.refused(refusal(kinds[0]), told_by(name), *[wrong] * len(kinds))

    def test_points_of_one_x_and_spots_in_line_are_refused_where_spread_ones_are_asked_for(self):
        for name, (_, kinds, spread) in FUNCTIONS.items():
            if spread:
                args = right_things(name)
                for one in interface.NOT_SPREAD[kinds[0]]:
                    args[0] = one
                    if "point's number" in kinds:
                        args[kinds.index("point's number")] = 0
                    self.refused("NoSpread", told_by(name), *args)

    def test_no_spread_goes_behind_all_other_refusals(self):
        for name, (_, kinds, spread) in FUNCTIONS.items():
            for at, kind in enumerate(kinds):
                if spread and at > 0:
                    for wrong in SOME_WRONG.get(kind, []):
                        args = right_things(name)
                        args[0], args[at] = interface.NOT_SPREAD[kinds[0]][0], wrong
                        self.refused(refusal(kind), told_by(name), *args)

    def test_no_thing_is_too_odd_to_be_told_none(self):
        itself = []
        itself.append(itself)
        for name in ("is_fraction", "is_points", "is_prices", "is_line", "is_spots", "is_plane", "is_values"):
            for thing in wrong_things("points") + [itself, (itself, itself), Case, len]:
                if name != "is_plane" or thing != row(0, 0, 1):
                    self.assertIs(told_by(name)(thing), False)


class Kept(Case):

    def test_what_is_handed_in_is_left_as_it_was(self):
        for name in FUNCTIONS:
            args = right_things(name)
            before = copy.deepcopy(args)
            told_by(name)(*args)
            self.assertEqual(repr(args), repr(before), name)

    def test_told_lists_are_the_askers_own(self):
        for name in FUNCTIONS:
            self.asked(told_by(name), *right_things(name))

    def test_a_list_changed_in_its_place_is_told_of_as_a_new_one(self):
        others = samples.spread_ones(5, 1, [3])
        for name, (_, kinds, _) in FUNCTIONS.items():
            # The line handed in with the changed points may be no pair line of theirs.
            if "points" in kinds and "pair line" not in kinds:
                args = [copy.deepcopy(one) for one in right_things(name)]
                for other in others:
                    told_by(name)(*args)
                    args[0][:] = other
                    again = told_by(name)(*args)
                    self.assertEqual(again, told_by(name)(*copy.deepcopy(args)), name)
                    anew = [list(other)] + copy.deepcopy(args[1:])
                    self.assertEqual(again, told_by(name)(*anew), name)

    def test_a_list_changed_to_none_in_its_place_is_refused(self):
        for name, (_, kinds, _) in FUNCTIONS.items():
            if "points" in kinds:
                args = [copy.deepcopy(one) for one in right_things(name)]
                told_by(name)(*args)
                args[0][1] = row(1, 1, 0)
                self.refused("NoPoints", told_by(name), *args)

    def test_a_told_list_handed_in_and_changed_is_not_kept(self):
        points = pts((0, 0), (1, 1), (2, 5))
        moved = told_by("tilted")(points, row(0, 1))
        once = told_by("pair_lines")(moved)
        spoilt(moved)
        self.assertEqual(told_by("tilted")(points, row(0, 1)), pts((0, 0), (1, 2), (2, 7)))
        self.assertEqual(told_by("pair_lines")(pts((0, 0), (1, 2), (2, 7))), once)


if __name__ == "__main__":
    unittest.main()
