"""Point 26: desks, their rows of text and what they answer."""

import inspect
import random
import unittest
from fractions import Fraction

from signlines.best import best_line, least_cost
from signlines.corners import corners
from signlines.desk import Desk
from signlines.signing import best_signs
from signlines.signs import fit
from signlines.texts import read_fraction, show_fraction
from signlines.turning import turns
from signlines.widths import least_width
from tests import model, model_moving, model_widths, samples, wrongs
from tests.helpers import Changing, num, pts, q, row

QUESTIONS = ["points", "best", "corners", "cost", "signs", "turns", "width"]
SOME = pts((0, 0), (1, "1/2", 2), (3, -1, "1/3"), (1, 5))


def words(numbers):
    """Fractions as Python writes them, a blank between them."""
    return " ".join(str(num(number)) for number in numbers)


def desk_with(points, prices=row(1, 1)):
    desk = Desk()
    for point in points:
        desk.say("put " + words(point))
    desk.say("prices " + words(prices))
    return desk


class Follows(Changing):
    """A desk, held row by row against a plain list of points and what the modules tell of it."""

    def begun(self):
        self.desk = Desk()
        self.points = []
        self.prices = row(1, 1)
        self.held()

    def said(self, text):
        """What is answered, a text; asked again, the same."""
        told = self.desk.say(text)
        self.assertIs(told.__class__, str)
        return told

    def held(self):
        """What is told now is what it should be."""
        wanted = "; ".join(words(point) for point in self.points) or "none"
        self.assertEqual(self.said("points"), wanted)
        for question in QUESTIONS[1:]:
            if not self.points:
                self.refused("NoPoints", self.desk.say, question)
            elif not samples.is_spread(self.points):
                self.refused("NoSpread", self.desk.say, question)
            else:
                self.assertEqual(self.said(question), self.answer(question), (question, self.points, self.prices))
                self.assertEqual(self.said(question), self.answer(question))

    def answer(self, question):
        """What the modules tell, as a text."""
        points, prices = self.points, self.prices
        if question == "best":
            return words(best_line(points, prices))
        if question == "corners":
            return "; ".join(words(line) for line in corners(points, prices))
        if question == "cost":
            return words([least_cost(points, prices)])
        if question == "signs":
            return words(best_signs(points, prices))
        if question == "turns":
            return words(turns(points)) or "none"
        return words([least_width(points)])

    def changed(self, text, points=None, prices=None):
        self.assertEqual(self.said(text), "ok")
        self.points = self.points if points is None else points
        self.prices = self.prices if prices is None else prices
        self.held()

    def put(self, *point):
        self.changed("put " + words(point), self.points + [point])

    def take(self, k):
        self.changed(f"take {k}", self.points[:k] + self.points[k + 1:])

    def move(self, k, *point):
        self.changed(f"move {k} " + words(point), wrongs.with_part(self.points, k, point))

    def price(self, *prices):
        self.changed("prices " + words(prices), None, prices)

    def refuses(self, name, text):
        self.refused(name, self.desk.say, text)
        self.held()


class Answers(Follows):

    def test_none_at_first_and_prices_of_one(self):
        self.begun()
        self.assertEqual(self.said("points"), "none")
        self.put(*row(0, 0, 1))
        self.put(*row(0, 2, 1))
        self.put(*row(1, 0, 1))
        self.put(*row(1, 2, 1))
        self.assertEqual(self.said("corners"), "0 0; 0 2; 2 -2; 2 0")

    def test_known_ones(self):
        desk = Desk()
        for text, told in [
            ("points", "none"), ("put 0 0 1", "ok"), ("points", "0 0 1"), ("put 1 1 1", "ok"), ("turns", "none"),
            ("width", "0"), ("cost", "0"), ("signs", "0 0"), ("best", "0 1"), ("corners", "0 1"), ("put 2 2 1", "ok"),
            ("put 1 4 1", "ok"), ("points", "0 0 1; 1 1 1; 2 2 1; 1 4 1"), ("best", "0 1"), ("cost", "3"),
            ("turns", "3/4"), ("width", "3/2"), ("prices 3 1", "ok"), ("best", "0 1"), ("cost", "9"),
            ("corners", "0 1; 0 4; 6 -2"), ("turns", "3/4"), ("width", "3/2"),
            ("prices 4 1", "ok"), ("corners", "0 4; 6 -2"),
            ("move 3 1 -1/2 3", "ok"), ("points", "0 0 1; 1 1 1; 2 2 1; 1 -1/2 3"), ("take 0", "ok"),
            ("points", "1 1 1; 2 2 1; 1 -1/2 3"), ("take 1", "ok"), ("points", "1 1 1; 1 -1/2 3"), ("take 1", "ok"),
            ("take 0", "ok"), ("points", "none"), ("put -7/3 10 1/20", "ok"), ("points", "-7/3 10 1/20"),
        ]:
            self.assertEqual(desk.say(text), told, text)

    def test_what_the_document_says_of_the_answers(self):
        for points, prices in samples.priced(2601, 1, (2, 4, 7)):
            desk = desk_with(points, prices)
            least, lines = model.corners(points, prices)
            self.assertEqual(desk.say("points"), "; ".join(words(point) for point in points))
            self.assertEqual(desk.say("best"), words(lines[0]))
            self.assertEqual(desk.say("corners"), "; ".join(words(line) for line in lines))
            self.assertEqual(desk.say("cost"), str(least))
            self.assertEqual(desk.say("width"), str(model_widths.least_width(points)))
            self.assertEqual(desk.say("turns"), " ".join(map(str, model_moving.moving(points)[0])) or "none")
            signs = [read_fraction(word) for word in desk.say("signs").split(" ")]
            for line in lines[:3]:
                self.told_truth(True, fit, points, prices, line, signs)

    def test_any_changes(self):
        chance = random.Random(2602)
        for make in samples.MAKERS:
            self.begun()
            for point in make(chance, 4):
                self.put(*point)
            for _ in range(20):
                self.some_change(chance, make(chance, 1)[0], [])
                if chance.randrange(3) == 0:
                    self.price(*samples.some_prices(chance))

    def test_put_take_and_move_at_each_place(self):
        for k in range(4):
            self.begun()
            for point in SOME:
                self.put(*point)
            self.move(k, *row("-5/3", 7, "9/2"))
            self.take(k)
            while self.points:
                self.take(len(self.points) - 1 if k % 2 else 0)
            self.put(*SOME[k])

    def test_long_ones(self):
        chance = random.Random(2603)
        self.begun()
        for point in samples.long_ones(chance, 4):
            self.put(*point)
        self.price(*samples.long_prices(chance))
        self.move(2, *samples.long_ones(chance, 1)[0])
        self.take(0)

    def test_ten_and_more_points_have_numbers_of_two_figures(self):
        chance = random.Random(2604)
        self.begun()
        for point in samples.fractions(chance, 12):
            self.put(*point)
        self.move(10, *row(50, 1, 1))
        self.take(11)
        self.take(10)
        self.refuses("NoNumber", "take 10")

    def test_the_prices_have_their_part(self):
        self.begun()
        for point in pts((0, 0), (0, 2), (1, 0), (1, 2)):
            self.put(*point)
        for prices, told in [(row(1, 2), "0 0"), (row(2, 1), "2 0"), (row("1/3", "1/2"), "0 0"), (row(7, 7), "0 0")]:
            self.price(*prices)
            self.assertEqual(self.said("best"), told)

    def test_points_of_one_x(self):
        self.begun()
        self.put(*row(2, 0, 1))
        self.put(*row(2, 5, 1))
        self.move(1, *row(3, 5, 1))
        self.assertEqual(self.said("turns"), "none")
        self.move(1, *row(2, 5, 1))

    def test_the_same_rows_are_answered_alike(self):
        chance = random.Random(2605)
        points = samples.fractions(chance, 6)
        one, other = desk_with(points, row(2, 3)), desk_with(points, row(2, 3))
        for question in QUESTIONS * 2:
            self.assertEqual(one.say(question), other.say(question))


class Refusals(Follows):

    def setUp(self):
        self.begun()
        for point in SOME:
            self.put(*point)
        self.price(*row("1/2", 3))

    def test_what_is_no_row(self):
        for wrong in wrongs.wrong_desk_rows():
            self.refused("NoRow", self.desk.say, wrong)
        self.held()

    def test_what_is_no_row_where_there_are_no_points(self):
        desk = Desk()
        for wrong in wrongs.wrong_desk_rows():
            self.refused("NoRow", desk.say, wrong)
        self.assertEqual(desk.say("points"), "none")
        desk.say("put 0 0 1")
        desk.say("put 1 3 1")
        self.assertEqual((desk.say("points"), desk.say("best"), desk.say("cost")), ("0 0 1; 1 3 1", "0 3", "0"))

    def test_one_blank_more_at_any_place_of_a_row(self):
        for text in QUESTIONS + ["put 1 2 3", "take 0", "move 0 1 2 3", "prices 1 2"]:
            for sign in (" ", "\n", "\t", "\x00", "\u00a0", "_", "+", ";", "\r", "\x0b"):
                for at in range(len(text) + 1):
                    self.refused("NoRow", self.desk.say, text[:at] + sign + text[at:])
        self.held()

    def test_no_row_goes_ahead_of_all_else(self):
        for text in ("put 1 2 0 0", "put 1 2/4 0", "put 0/1 2 -1", "take 9 9", "take 09", "move 9 1 2",
                     "move 9 1 2 0/1", "move 04 1 2 0", "move 9 1 -0 0", "prices 0 0 0", "prices -1 01",
                     "prices 0", "best 0"):
            self.refuses("NoRow", text)
            self.refused("NoRow", Desk().say, text)

    def test_no_number(self):
        for k in ("4", "5", "10", "12", "100", "9" * 60, "1" + "0" * 3999):
            self.refuses("NoNumber", "take " + k)
            self.refuses("NoNumber", f"move {k} 1 1 1")
            self.refuses("NoNumber", f"move {k} 1 1 0")
            self.refuses("NoNumber", f"move {k} 1 1 -1/2")

    def test_no_number_where_there_are_no_points(self):
        self.begun()
        for k in ("0", "1", "12", "9" * 60):
            self.refuses("NoNumber", "take " + k)
            self.refuses("NoNumber", f"move {k} 1 1 1")
            self.refuses("NoNumber", f"move {k} 1 1 0")

    def test_no_points(self):
        for weight in ("0", "-1", "-1/2", "-" + "9" * 60):
            self.refuses("NoPoints", "put 1 1 " + weight)
            self.refuses("NoPoints", "move 0 1 1 " + weight)
            self.refuses("NoPoints", "move 3 1 1 " + weight)
            self.refused("NoPoints", Desk().say, "put 1 1 " + weight)

    def test_a_thirteenth_point(self):
        chance = random.Random(2611)
        for point in samples.grid(chance, 8):
            self.put(*point)
        self.assertEqual(len(self.points), 12)
        for text in ("put 1 1 1", "put 1 1 0", "put -9 1/2 1/3"):
            self.refuses("NoPoints", text)
        self.refuses("NoNumber", "take 12")
        self.move(11, *row(9, 9, 9))
        self.take(0)
        self.put(*row(8, 8, 8))
        self.refuses("NoPoints", "put 1 1 1")

    def test_no_prices(self):
        for text in ("prices 0 1", "prices 1 0", "prices 0 0", "prices -1 1", "prices 1 -1", "prices -1/2 -1/2",
                     "prices 1 -" + "9" * 60):
            self.refuses("NoPrices", text)
            self.refused("NoPrices", Desk().say, text)
        self.price(q(1, 10 ** 59), q(10 ** 59))

    def test_questions_where_there_are_no_points_and_where_they_have_one_x(self):
        self.begun()
        self.assertEqual(self.said("points"), "none")
        for question in QUESTIONS[1:]:
            self.refuses("NoPoints", question)
        self.put(*row(5, 1, 1))
        for question in QUESTIONS[1:]:
            self.refuses("NoSpread", question)
        self.put(*row(5, 2, 1))
        for question in QUESTIONS[1:]:
            self.refuses("NoSpread", question)
        self.take(0)
        self.take(0)
        for question in QUESTIONS[1:]:
            self.refuses("NoPoints", question)

    def test_what_is_no_text_ahead_of_all_else(self):
        for desk in (Desk(), desk_with(SOME)):
            for wrong in (None, True, 5, b"best", ["best"], ("take", 0), Fraction(1), Desk, desk, object()):
                self.refused("NoRow", desk.say, wrong)


class Apart(Follows):

    def test_two_desks_change_nothing_of_one_another(self):
        one, other = desk_with(SOME, row(1, 2)), desk_with(SOME[::-1], row(5, 1))
        kept = [other.say(question) for question in QUESTIONS]
        for text in ("take 1", "move 0 9 9 9", "prices 3 4", "put 7 7 7", "take 0", "take 0", "take 0", "take 0"):
            one.say(text)
        self.assertEqual(one.say("points"), "none")
        self.assertEqual([other.say(question) for question in QUESTIONS], kept)
        self.assertEqual(Desk().say("points"), "none")

    def test_the_class_itself_defines_its_method(self):
        self.assertEqual((Desk.__module__, Desk.__name__), ("signlines.desk", "Desk"))
        self.assertTrue(inspect.isfunction(Desk.__dict__["say"]))
        inspect.signature(Desk.__dict__["say"]).bind(*range(2))
        inspect.signature(Desk).bind()

    def test_answers_are_read_back(self):
        desk = desk_with(SOME, row(1, 2))
        points = [tuple(map(read_fraction, part.split(" "))) for part in desk.say("points").split("; ")]
        self.assertEqual(points, SOME)
        self.assertEqual(read_fraction(desk.say("cost")), least_cost(SOME, row(1, 2)))
        self.assertEqual(desk.say("cost"), show_fraction(least_cost(SOME, row(1, 2))))


if __name__ == "__main__":
    unittest.main()
