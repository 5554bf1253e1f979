"""[65]: pairs that keep fractions apart from told ones."""

import unittest

from helpers import EIGHTH, LETTER, NINTH, NO_FRACTION_LISTS, NO_FRACTIONS, NO_PLACES, STRANGE, check_call, check_raises
from helpers import check_refusals, draw_fraction, draw_place, drawing
from innerfractions.errors import InvalidFraction, InvalidFractions, TooMany
from innerfractions.forms import divides
from innerfractions.fractions import Fraction, letter, put
from innerfractions.kept import is_kept_apart, kept_apart
from innerfractions.made import is_made, made_steps
from innerfractions.ones import the_one
from innerfractions.outer import is_inner
from innerfractions.ratios import Ratio
from innerfractions.twins import part

SQUARE, CUBE, WAVE = Fraction([0, 0, 1]), Fraction([0, 0, 0, 1]), Fraction([1, 0, 1], [0, 1])
BOTH, NEAR = Fraction([1, 0, 0, 0, 1], [0, 0, 1]), Fraction([-1, 0, 1], [0, 1])
NUMBERS = [Fraction([]), Fraction([5]), Fraction([1, 1], [2, 2])]
PLACES = ["beyond", 0, 1, -2, Ratio(1, 2)]
BOUND = {"what": "degree", "limit": 8}


def power(many):
    return Fraction([0] * many + [1])


class Checks(unittest.TestCase):
    def judge(self, told, fraction, value, wanted):
        self.assertIs(is_kept_apart(told, fraction, value), wanted)
        self.assertIs(is_kept_apart(value=value, fractions=tuple(told), fraction=fraction), wanted)

    def check(self, told, fraction):
        given = {"fractions": told, "fraction": fraction}
        made = kept_apart(**given)
        self.assertEqual(made is None, is_made(told, fraction))
        self.assertEqual(made is None, made_steps(told, fraction) is not None)
        self.assertEqual(check_call(self, kept_apart, given), made)
        if made is not None:
            self.assertIs(type(made), tuple)
            inner, place = made
            self.assertTrue(all(is_inner(one, inner) for one in told))
            self.assertFalse(divides(part(inner, place), part(fraction, place)))
            self.assertTrue(isinstance(place, Ratio) or place == "beyond")
            self.judge(told, fraction, made, True)
        for place in PLACES:
            one = the_one(told)
            wanted = fraction.is_full and not divides(part(one, place), part(fraction, place))
            self.judge(told, fraction, (one, place), wanted)
            self.judge(told, fraction, (put(Fraction([1, 2], [3, 1]), one), place), wanted)


class Kept(Checks):
    def test_drawn(self):
        draw = drawing(201)
        for _ in range(50):
            inner = draw_fraction(draw, draw.randint(1, 4), 3)
            told = [put(draw_fraction(draw, draw.randint(1, 8 // inner.degree), 3), inner) for _ in range(draw.randint(1, 4))]
            self.check(told, draw_fraction(draw, draw.randint(1, 8), 3))
            self.check(told, inner)
            self.check(told, put(draw_fraction(draw, draw.randint(1, 8 // inner.degree), 3), inner))

    def test_known(self):
        for told, fraction in [
            ([SQUARE], LETTER), ([power(6)], SQUARE), ([BOTH, NEAR], WAVE), ([SQUARE, CUBE], EIGHTH), ([power(8), power(6)], CUBE), ([WAVE], WAVE),
            ((power(4), power(6)), power(8)), ([power(8)], power(4)), ([EIGHTH], power(8) + 1), ([SQUARE], put(SQUARE, LETTER + 1)),
        ]:
            self.check(told, fraction)

    def test_numbers_are_made(self):
        for number in NUMBERS:
            for told in ([SQUARE], [WAVE, EIGHTH], (LETTER,)):
                self.assertIsNone(check_call(self, kept_apart, {"fractions": told, "fraction": number}))
                for place in PLACES:
                    self.judge(told, number, (told[0], place), False)
                    self.judge(told, number, (letter(), place), False)


class Judged(Checks):
    """is_kept_apart of whatever value."""

    def test_pairs(self):
        for told, fraction, value, wanted in [
            ([SQUARE], LETTER, (SQUARE, 1), True), ([SQUARE], LETTER, (LETTER, 1), False), ([power(6)], SQUARE, (power(6), 1), True),
            ([SQUARE], LETTER, (SQUARE, Ratio(1)), True), ([SQUARE], LETTER, (SQUARE, "beyond"), True), ([SQUARE], LETTER, (SQUARE, 0), True),
            ([SQUARE], CUBE, (SQUARE, 0), False), ([SQUARE], CUBE, (SQUARE, "beyond"), False), ([SQUARE], CUBE, (SQUARE, 1), True),
            # A fraction that is inner, but of a lesser degree than the one.
            ([power(6)], SQUARE, (CUBE, 1), True), ([power(6)], SQUARE, (SQUARE, 1), False), ([power(8)], CUBE, (SQUARE, 3), True),
            # Fractions that are not inner to each of the told ones.
            ([SQUARE], LETTER, (CUBE, 1), False), ([SQUARE], LETTER, (power(4), 1), False), ([SQUARE, CUBE], LETTER, (SQUARE, 1), False),
            ([power(4), power(6)], LETTER, (power(4), 1), False), ([power(4), power(6)], LETTER, (SQUARE, 1), True),
            ([SQUARE], LETTER, (power(24), 1), False), ([EIGHTH], LETTER, (NINTH, 1), False),
            # Of what is made there is none.
            ([SQUARE], power(4), (SQUARE, 1), False), ([SQUARE, CUBE], LETTER, (LETTER, 1), False),
        ]:
            self.judge(told, fraction, value, wanted)

    def test_other_kinds(self):
        for value in (None, True, 0, "pair", b"", {}, [], (), [SQUARE, 1], (SQUARE,), (SQUARE, 1, 1), (1, SQUARE), (None, 1), ("t", 1), (2, 1),
                      (Ratio(2), 1), ([0, 0, 1], 1), SQUARE, STRANGE, object(), {0: SQUARE, 1: 1}, ((SQUARE, 1), 1), (STRANGE, 1), (Fraction, 1)):
            self.judge([SQUARE], LETTER, value, False)
        for number in NUMBERS:
            self.judge([SQUARE], LETTER, (number, 1), False)
        for place in NO_PLACES:
            self.judge([SQUARE], LETTER, (SQUARE, place), False)

    def test_of_made_ones_never(self):
        draw = drawing(202)
        for _ in range(40):
            inner = draw_fraction(draw, draw.randint(1, 3), 3)
            told = [put(draw_fraction(draw, 2, 3), inner)]
            made = put(draw_fraction(draw, 1, 3), told[0])
            for one in (inner, told[0], letter()):
                self.judge(told, made, (one, draw_place(draw)), False)


class Refused(unittest.TestCase):
    def test_kinds(self):
        refused = [("fractions", InvalidFractions, NO_FRACTION_LISTS), ("fraction", InvalidFraction, NO_FRACTIONS)]
        check_refusals(self, kept_apart, refused, {"fractions": [EIGHTH] * 4, "fraction": EIGHTH})
        check_refusals(self, kept_apart, refused, {"fractions": (SQUARE,), "fraction": Fraction([])})
        check_refusals(self, is_kept_apart, refused, {"fractions": [EIGHTH, SQUARE], "fraction": EIGHTH, "value": None})

    def test_bound(self):
        for function, more in [(kept_apart, []), (is_kept_apart, [None]), (is_kept_apart, [(SQUARE, 1)])]:
            for fraction in (NINTH, power(24)):
                check_raises(self, TooMany, BOUND, function, [SQUARE], fraction, *more)
                check_raises(self, InvalidFractions, {"value": None}, function, None, fraction, *more)
            check_raises(self, InvalidFraction, {"value": None}, function, [SQUARE], None, *more)
            function([SQUARE], EIGHTH, *more)


if __name__ == "__main__":
    unittest.main()
