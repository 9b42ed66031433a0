"""Point 4, its texts: fractions as texts and back."""

import random
import unittest
from itertools import product
from math import gcd

from signlines.fractions import fraction, plus, times
from signlines.texts import read_fraction, show_fraction
from tests import samples, wrongs
from tests.helpers import Case, num, q

FIGURES = "0123456789"


def long_whole(chance, many):
    """A whole number of so many figures."""
    return chance.randint(10 ** (many - 1), 10 ** many - 1)


def long_fractions():
    """Fractions of up to four thousand figures above and below the stroke."""
    chance = random.Random(41)
    found = []
    for many in (1, 2, 17, 18, 19, 20, 59, 60, 61, 64, 65, 120, 999, 1000, 2500, 3999, 4000):
        for below in (1, many):
            for sign in (1, -1):
                found.append(q(sign * long_whole(chance, many), long_whole(chance, below)))
        found += [q(10 ** (many - 1)), q(1 - 10 ** many), q(1, 10 ** (many - 1)), q(-1, 10 ** many - 1)]
    return found


class Showing(Case):

    def test_known_ones(self):
        for one, text in [((-3, 2), "-3/2"), ((0, 1), "0"), ((12, 1), "12"), ((3, 2), "3/2"), ((-12, 1), "-12"),
                          ((1, 1), "1"), ((-1, 1), "-1"), ((1, 2), "1/2"), ((-1, 10), "-1/10"), ((100, 7), "100/7"),
                          ((7, 100), "7/100"), ((10 ** 59, 1), "1" + "0" * 59), ((1, 10 ** 20), "1/1" + "0" * 20),
                          ((-(10 ** 120), 3), "-1" + "0" * 120 + "/3"), ((10 ** 60, 1), "1" + "0" * 60),
                          ((10 ** 60 + 5, 1), "1" + "0" * 59 + "5"), ((10 ** 61 - 1, 1), "9" * 61)]:
            told = self.asked(show_fraction, one)
            self.assertIs(told.__class__, str)
            self.assertEqual(told, text)
            self.assertEqual(self.asked(read_fraction, text), one)

    def test_any_as_python_writes_it(self):
        chance = random.Random(42)
        some = [samples.small(chance) for _ in range(100)] + [samples.long_number(chance) for _ in range(50)]
        for one in some + [q(top) for top in range(-120, 121)] + long_fractions():
            text = self.asked(show_fraction, one)
            self.assertEqual(text, str(num(one)))
            self.assertEqual(self.asked(read_fraction, text), one)

    def test_what_is_no_fraction(self):
        for wrong in wrongs.wrong_fractions():
            self.refused("NoFraction", show_fraction, wrong)

    def test_thousands_of_figures_of_told_numbers(self):
        chance = random.Random(43)
        found = q(1)
        for _ in range(32):
            found = plus(times(found, samples.long_number(chance)), samples.long_number(chance))
        self.assertGreater(len(show_fraction(found)), 3000)
        self.assertEqual(read_fraction(show_fraction(found)), found)


class Reading(Case):

    def test_noughts_within_and_behind(self):
        for text in ("10", "100", "-10", "10/3", "3/10", "-70/101", "1" + "0" * 3999, "1/1" + "0" * 3999, "1000001"):
            self.assertEqual(show_fraction(self.asked(read_fraction, text)), text)

    def test_each_figure(self):
        for figure in FIGURES[1:]:
            self.assertEqual(self.asked(read_fraction, figure), (int(figure), 1))
            self.assertEqual(self.asked(read_fraction, "-" + figure), (-int(figure), 1))
            self.assertEqual(self.asked(read_fraction, "1" + figure), (10 + int(figure), 1))
            self.assertEqual(self.asked(read_fraction, figure * 70), (int(figure * 70), 1))
        self.assertEqual(self.asked(read_fraction, "0"), (0, 1))

    def test_all_short_texts(self):
        told = 0
        for many in range(5):
            for signs in product("-/0124 +", repeat=many):
                told += self.held_to("".join(signs))
        self.assertGreater(told, 100)

    def test_what_is_not_so_written(self):
        for wrong in wrongs.wrong_texts():
            self.refused("NoText", read_fraction, wrong)

    def test_one_more_sign_in_a_right_text(self):
        for text in ("-3/2", "12", "-120/7", "55/1000003"):
            for at in range(len(text) + 1):
                for sign in " +_.\n\u0663\u00b3xe/-0":
                    self.held_to(text[:at] + sign + text[at:])

    def held_to(self, text):
        """Read just where it is a fraction's; whether it is."""
        if not self.right(text):
            self.refused("NoText", read_fraction, text)
            return False
        self.assertEqual(read_fraction(text), q(text))
        return True

    def right(self, text):
        """Whether the text is a fraction's, by the document's words."""
        above, stroke, beneath = text.partition("/")
        plain = above[1:] if above[:1] == "-" else above
        for part in [plain] + ([beneath] if stroke else []):
            if part == "" or any(sign not in FIGURES for sign in part) or part != str(int(part)):
                return False
        if above == "-0":
            return False
        return not stroke or int(beneath) > 1 and gcd(int(plain), int(beneath)) == 1

    def test_any_text_of_such_signs(self):
        chance = random.Random(44)
        told = [self.held_to("".join(chance.choice("-/01234567899") for _ in range(chance.randint(0, 6))))
                for _ in range(3000)]
        self.assertGreater(sum(told), 200)

    def test_long_texts_in_no_lowest_terms_or_with_noughts_ahead(self):
        chance = random.Random(45)
        for many in (20, 60, 61, 1000, 4000):
            top, bottom = long_whole(chance, many - 1), long_whole(chance, many - 1)
            one = fraction(top, bottom)
            text = show_fraction(one)
            twice = str(one[0] * 2) + "/" + str(one[1] * 2)
            for wrong in (twice, "0" + text, text.replace("/", "/0"), text + "/1", "+" + text, text + " ",
                          str(top) + "/1", "-" + "0" * many, "0" * many, str(top) + "/" + "0" * many,
                          str(top) + "\u0661", str(top)[:-1] + "x", "1/" + str(bottom)[:-1] + "_1"):
                self.refused("NoText", read_fraction, wrong)


if __name__ == "__main__":
    unittest.main()
