"""[4], [61], [62]: the one of told fractions, its outer ones, lone places."""

import unittest

from helpers import EIGHTH, LETTER, NO_FRACTION_LISTS, NO_FRACTIONS, NO_PLACES, check_call, check_refusals
from helpers import draw_fraction, draw_place, drawing
from innerfractions.classes import class_of
from innerfractions.errors import InvalidFraction, InvalidFractions
from innerfractions.fractions import Fraction, letter, put
from innerfractions.ones import is_lone_place, is_the_one, lone_place, outers, tells_letter, the_one
from innerfractions.outer import is_inner, outer
from innerfractions.places import is_place
from innerfractions.ratios import Ratio
from innerfractions.twins import are_twins, common_part

SQUARE, CUBE, WAVE = Fraction([0, 0, 1]), Fraction([0, 0, 0, 1]), Fraction([1, 0, 1], [0, 1])
BOTH, NEAR = Fraction([1, 0, 0, 0, 1], [0, 0, 1]), Fraction([-1, 0, 1], [0, 1])
PLACES = ["beyond", 0, 1, -1, 2, Ratio(1, 2)]


def power(many):
    return Fraction([0] * many + [1])


class Checks(unittest.TestCase):
    def check(self, fractions):
        """The one is told and inner to all; the outer ones put in it give the told ones; all else agrees."""
        one = check_call(self, the_one, {"fractions": fractions})
        self.assertIs(type(one), Fraction)
        self.assertEqual(class_of(one), one)
        made = check_call(self, outers, {"fractions": fractions})
        self.assertIs(type(made), list)
        self.assertEqual(len(made), len(fractions))
        for fraction, other in zip(fractions, made):
            self.assertEqual(put(other, one), fraction)
            self.assertEqual(outer(fraction, one), other)
        self.check_lone(fractions, one)
        self.assertIs(check_call(self, tells_letter, {"fractions": fractions}), one.degree == 1)
        self.check_class(fractions, one)
        return one

    def check_class(self, fractions, one):
        for fraction, wanted in [
            (one, True), (put(Fraction([3, 1], [1, 2]), one), True), (put(Fraction([1], [0, -1]), one), True), (put(SQUARE, one), False),
            (Fraction([2]), False), (Fraction([]), False), (LETTER, one == LETTER), (power(24), False), (power(9), False),
        ]:
            self.assertIs(check_call(self, is_the_one, {"fractions": fractions, "fraction": fraction}), wanted)

    def check_lone(self, fractions, one):
        place = check_call(self, lone_place, {"fractions": fractions})
        self.assertTrue(is_place(place))
        self.assertTrue(isinstance(place, Ratio) or place == "beyond")
        self.assertIs(is_lone_place(fractions, place), True)
        for other in PLACES + [place]:
            # The common part shows that no fraction of a greater degree is inner to all.
            self.assertGreaterEqual(len(common_part(fractions, other)) - 1, one.degree)
            wanted = len(common_part(fractions, other)) - 1 == one.degree
            self.assertIs(check_call(self, is_lone_place, {"fractions": fractions, "value": other}), wanted)


class Ones(Checks):
    def test_put_together(self):
        draw = drawing(181)
        for _ in range(80):
            inner = draw_fraction(draw, draw.randint(1, 4), 4)
            most = 8 // inner.degree
            fractions = [put(draw_fraction(draw, draw.randint(1, most), 4), inner) for _ in range(draw.randint(1, 4))]
            one = self.check(tuple(fractions) if draw.random() < 0.3 else fractions)
            self.assertTrue(is_inner(one, inner))

    def test_one_is_the_inner_one(self):
        # The outer ones t t and t t t have nothing in common but t.
        draw = drawing(182)
        for _ in range(20):
            inner = draw_fraction(draw, draw.choice([1, 2]), 4)
            lead = draw_fraction(draw, 1, 4)
            self.assertEqual(self.check([put(put(SQUARE, lead), inner), put(put(CUBE, lead), inner)]), class_of(inner))

    def test_in_another_sequence_and_twice(self):
        draw = drawing(183)
        for _ in range(15):
            inner = draw_fraction(draw, 2, 3)
            one, two, three = [put(draw_fraction(draw, draw.randint(1, 4), 3), inner) for _ in range(3)]
            wanted = self.check([one, two, three])
            for others in ([two, three, one], [three, two, one], [one, two, three, two], (one, one, two, three)):
                self.assertEqual(the_one(others), wanted)

    def test_of_one_alone(self):
        draw = drawing(184)
        for _ in range(20):
            fraction = draw_fraction(draw, draw.randint(1, 8))
            self.assertEqual(self.check([fraction]), class_of(fraction))
            self.assertEqual(the_one([fraction] * 4), class_of(fraction))

    def test_nothing_in_common(self):
        draw = drawing(185)
        for _ in range(20):
            fractions = [draw_fraction(draw, draw.randint(2, 8)) for _ in range(draw.randint(2, 4))]
            if len(common_part(fractions, 7)) == 2:
                self.assertEqual(self.check(fractions), letter())

    def test_moves(self):
        draw = drawing(186)
        for _ in range(10):
            self.assertEqual(self.check([draw_fraction(draw, 1) for _ in range(draw.randint(1, 4))]), letter())
        self.assertEqual(self.check([WAVE, LETTER + 1]), letter())

    def test_powers(self):
        for many, wanted in [
            ([2, 3], 1), ([6, 4], 2), ([6, 8, 4], 2), ([6, 3], 3), ([8, 4], 4), ([6, 4, 3], 1), ([8, 6, 4, 2], 2), ([5, 5], 5), ([8, 7], 1), ([8], 8),
        ]:
            self.assertEqual(self.check([power(one) for one in many]), power(wanted))

    def test_known(self):
        self.assertEqual(self.check([BOTH, NEAR]), NEAR)
        self.assertEqual(self.check([BOTH, WAVE]), WAVE)
        self.assertEqual(self.check([WAVE, NEAR]), letter())
        # t t + 1 / (t t) and t - 1 / t tell t - 1 / t alone, as t t and t to the 4 tell t t.
        self.assertEqual(outers([BOTH, NEAR]), [Fraction([2, 0, 1]), letter()])
        self.assertIs(tells_letter([BOTH, NEAR]), False)
        self.assertIs(tells_letter([SQUARE, CUBE]), True)
        self.assertEqual(self.check([put(SQUARE, LETTER + 1), put(CUBE, LETTER + 1) * 5]), letter())

    def test_where_places_are_not_lone(self):
        # The first COUNTS are twins of one another, two by two: at them the common part is greater.
        shared = LETTER
        for number in range(1, 6):
            shared = shared * (LETTER - number)
        fractions = [shared, shared * (LETTER + 1)]
        self.assertEqual(self.check(fractions), letter())
        for number in range(6):
            self.assertEqual(len(common_part(fractions, number)) - 1, 6)
            self.assertIs(is_lone_place(fractions, number), False)

    def test_where_the_first_places_agree_on_too_much(self):
        # 0 and 5 are twins, and 1 and 7: two places with common parts of the degree 2 that have no
        # root in common, and of which the quotient is not inner.
        double = LETTER * (LETTER - 5) * (LETTER - 1) * (LETTER - 7)
        curve = LETTER * (LETTER - 5) * (LETTER * 3 - 17) * Ratio(1, 56)
        for number, other in ((0, 5), (1, 7)):
            self.assertEqual(len(common_part([curve, curve + double], number)) - 1, 2)
            self.assertIs(are_twins([curve, curve + double], number, other), True)
        self.assertEqual(self.check([curve, curve + double]), letter())
        self.assertEqual([is_lone_place([curve, curve + double], place) for place in (0, 1, 5, 7, 2)], [False] * 4 + [True])

    def test_with_great_numbers(self):
        draw = drawing(187)
        for many in (1, 2, 4):
            inner = Fraction([Ratio(draw.randint(-999999, 999999), draw.randint(1, 999999)) for _ in range(many)] + [1], [3, Ratio(1, 999983)])
            lead = Fraction([Ratio(999999, 7), -2], [1, Ratio(13, 999998)])
            self.check([put(put(SQUARE, lead), inner), put(SQUARE, inner) + inner])


class Lone(unittest.TestCase):
    def test_any_value(self):
        for value in NO_PLACES + [LETTER, [1], ("beyond", 1)]:
            self.assertIs(is_lone_place([SQUARE, CUBE], value), False, value)
            self.assertIs(is_lone_place([SQUARE], value), False)

    def test_known(self):
        for place in ("beyond", 0):
            self.assertIs(is_lone_place([SQUARE, CUBE], place), False)
            self.assertIs(is_lone_place([SQUARE], place), True)
        for place in (1, Ratio(-2, 3), 999999):
            self.assertIs(is_lone_place([SQUARE, CUBE], place), True)
        knot = (Fraction([-1, 0, 1]), Fraction([0, -1, 0, 1]))
        self.assertEqual([is_lone_place(knot, place) for place in (1, -1, 0, 2, "beyond")], [False, False, True, True, False])

    def test_drawn(self):
        draw = drawing(188)
        for _ in range(40):
            fractions = [draw_fraction(draw, draw.randint(1, 4), 2) for _ in range(2)]
            place = draw_place(draw)
            wanted = len(common_part(fractions, place)) - 1 == the_one(fractions).degree
            self.assertIs(is_lone_place(fractions, place), wanted)


class Refused(unittest.TestCase):
    def test_kinds(self):
        refused = [("fractions", InvalidFractions, NO_FRACTION_LISTS)]
        for function in (the_one, outers, tells_letter, lone_place):
            check_refusals(self, function, refused, {"fractions": [EIGHTH] * 4})
            check_refusals(self, function, refused, {"fractions": (LETTER,)})
        check_refusals(self, is_lone_place, refused, {"fractions": [WAVE], "value": None})
        refused = refused + [("fraction", InvalidFraction, NO_FRACTIONS)]
        check_refusals(self, is_the_one, refused, {"fractions": [EIGHTH, WAVE], "fraction": Fraction([])})


if __name__ == "__main__":
    unittest.main()
