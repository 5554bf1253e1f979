"""[4], [81]: curves, their points, how often they are passed, their plain tellings."""

import unittest

from helpers import EIGHTH, LETTER, NINTH, NO_FRACTIONS, NO_PLACES, STRANGE, check_call, check_raises, check_refusals
from helpers import draw_fraction, draw_place
from helpers import drawing
from innerfractions.classes import same_class
from innerfractions.curves import Curve
from innerfractions.errors import InvalidFraction, InvalidPlace, NumbersAlone, TooMany
from innerfractions.fractions import Fraction, letter, put
from innerfractions.ones import the_one
from innerfractions.outer import outer
from innerfractions.places import worth
from innerfractions.ratios import Ratio

NUMBERS = [Fraction([]), Fraction([5]), Fraction([1, 1], [2, 2]), Fraction([Ratio(-2, 3)])]
SQUARE, CUBE, WAVE = Fraction([0, 0, 1]), Fraction([0, 0, 0, 1]), Fraction([1, 0, 1], [0, 1])
KNOT = Curve(Fraction([-1, 0, 1]), Fraction([0, -1, 0, 1]))
TWICE = Curve(Fraction([1, 0, 0, 0, 1], [0, 0, 1]), Fraction([-1, 0, 1], [0, 1]))
BOUND = {"what": "degree", "limit": 8}


class Plain(unittest.TestCase):
    def check(self, curve, passes=None):
        first, second = curve.first(), curve.second()
        full = [fraction for fraction in (first, second) if fraction.is_full]
        one = the_one(full)
        self.assertEqual(check_call(self, curve.passes, {}), one.degree)
        plain = check_call(self, curve.plain, {})
        self.assertIs(type(plain), Curve)
        for fraction, other in [(first, plain.first()), (second, plain.second())]:
            self.assertEqual(other, outer(fraction, one) if fraction.is_full else fraction)
            self.assertEqual(put(other, one), fraction)
        self.assertEqual(plain.passes(), 1)
        self.assertEqual(plain.plain(), plain)
        if passes is not None:
            self.assertEqual(curve.passes(), passes)
        # The points of the plain telling are those of the curve.
        for place in ("beyond", 0, 1, Ratio(-2, 3), 7):
            self.assertEqual(plain.point(worth(one, place)), curve.point(place))
        return plain

    def test_put_together(self):
        draw = drawing(331)
        for _ in range(50):
            inner = draw_fraction(draw, draw.randint(1, 4), 4)
            most = 8 // inner.degree
            first, second = [put(draw_fraction(draw, draw.randint(1, most), 4), inner) for _ in range(2)]
            self.check(Curve(first, second))
            number = draw.choice(NUMBERS)
            for curve in (Curve(number, first), Curve(first, number)):
                self.check(curve, first.degree)
                self.assertTrue(curve.plain().first().degree + curve.plain().second().degree == 1)

    def test_passed_just_as_often(self):
        # Outer ones t t and t t t, or t and any, have nothing in common but t.
        draw = drawing(332)
        for degree in (1, 2, 3, 4):
            for _ in range(4):
                inner, lead = draw_fraction(draw, degree, 4), draw_fraction(draw, 1, 4)
                pairs = [(lead, draw_fraction(draw, 8 // degree, 4)), (draw_fraction(draw, 8 // degree, 4), lead)]
                if degree < 3:
                    pairs.append((put(SQUARE, lead), put(CUBE, lead)))
                for first, second in pairs:
                    self.check(Curve(put(first, inner), put(second, inner)), degree)
                    self.check(Curve(first, second), 1)

    def test_plain_ones_stay(self):
        # The one of a curve that is passed once, told, is t.
        for curve in (
            KNOT, Curve(SQUARE, CUBE), Curve(LETTER + 1, EIGHTH), Curve(Fraction([1], [0, 1]), LETTER),
            Curve(LETTER, Fraction([3])),
        ):
            self.assertEqual(self.check(curve, 1), curve)

    def test_known(self):
        self.assertEqual(self.check(KNOT, 1), KNOT)
        self.assertEqual(self.check(TWICE, 2), Curve(Fraction([2, 0, 1]), letter()))
        self.assertEqual(self.check(Curve(EIGHTH, EIGHTH), 8), Curve(Fraction([1], [0, 1]), Fraction([1], [0, 1])))
        self.assertEqual(self.check(Curve(Fraction([]), SQUARE), 2), Curve(Fraction([]), letter()))
        self.assertEqual(self.check(Curve(SQUARE * 3, Fraction([7])), 2), Curve(LETTER * 3, Fraction([7])))


class Told(unittest.TestCase):
    def test_parts(self):
        draw = drawing(333)
        for _ in range(40):
            choices = NUMBERS + [draw_fraction(draw, draw.randint(1, 8), 5) for _ in range(8)]
            first, second = draw.choice(choices), draw.choice(choices)
            if not first.is_full and not second.is_full:
                check_raises(self, NumbersAlone, {}, Curve, first, second)
                continue
            curve = Curve(second=second, first=first)
            self.assertEqual((curve.first(), curve.second()), (first, second))
            for place in ("beyond", 0, draw_place(draw), draw_place(draw)):
                point = check_call(self, curve.point, {"place": place})
                self.assertIs(type(point), tuple)
                self.assertEqual(point, (worth(first, place), worth(second, place)))
                for one in point:
                    self.assertTrue(isinstance(one, Ratio) or one == "beyond")
            self.assertEqual(repr(curve), f"Curve({first!r}, {second!r})")

    def test_points(self):
        self.assertEqual(KNOT.point(-1), (Ratio(0), Ratio(0)))
        self.assertEqual(KNOT.point(Ratio(1)), (Ratio(0), Ratio(0)))
        self.assertEqual(KNOT.point("beyond"), ("beyond", "beyond"))
        self.assertEqual(TWICE.point(0), ("beyond", "beyond"))
        self.assertEqual(Curve(Fraction([1, 3], [0, 2]), Fraction([4])).point("beyond"), (Ratio(3, 2), Ratio(4)))
        self.assertEqual(Curve(WAVE, LETTER).point(0), ("beyond", Ratio(0)))

    def test_repr(self):
        self.assertEqual(
            repr(Curve(LETTER, Fraction([]))),
            "Curve(Fraction([Ratio(0, 1), Ratio(1, 1)], [Ratio(1, 1)]), Fraction([], [Ratio(1, 1)]))",
        )

    def test_equal(self):
        curve = Curve(SQUARE, CUBE)
        self.assertTrue(curve == Curve(Fraction([0, 0, 2], [2]), CUBE))
        self.assertFalse(curve != Curve(SQUARE, CUBE))
        for other in (
            Curve(CUBE, SQUARE), Curve(SQUARE, SQUARE), Curve(CUBE, CUBE), KNOT,
            Curve(put(SQUARE, LETTER + 1), put(CUBE, LETTER + 1)),
        ):
            self.assertFalse(curve == other)
            self.assertTrue(curve != other)
        # The same points, told otherwise, are another Curve.
        self.assertFalse(TWICE == TWICE.plain())
        for other in (None, 1, True, "curve", SQUARE, (SQUARE, CUBE), [SQUARE, CUBE], Ratio(1), object(), Curve, {}):
            self.assertFalse(curve == other)
            self.assertFalse(other == curve)
            self.assertTrue(curve != other)

    def test_classes(self):
        draw = drawing(334)
        for _ in range(10):
            fraction = draw_fraction(draw, 4, 4)
            self.assertTrue(same_class(Curve(fraction, fraction).plain().first(), letter()))


class Refused(unittest.TestCase):
    def test_kinds(self):
        refused = [(name, InvalidFraction, NO_FRACTIONS) for name in ("first", "second")]
        check_refusals(self, Curve, refused, {"first": EIGHTH, "second": EIGHTH})
        check_refusals(self, Curve, refused, {"first": EIGHTH, "second": Fraction([])})
        check_refusals(self, Curve, refused, {"first": Fraction([2]), "second": LETTER})
        check_refusals(self, KNOT.point, [("place", InvalidPlace, NO_PLACES)], {"place": "beyond"})
        check_raises(self, InvalidFraction, {"value": STRANGE}, Curve, NINTH, STRANGE)
        check_raises(self, InvalidFraction, {"value": None}, Curve, None, NINTH)

    def test_state(self):
        for number in NUMBERS:
            for other in NUMBERS:
                check_raises(self, NumbersAlone, {}, Curve, number, other)
                check_raises(self, NumbersAlone, {}, Curve, second=other, first=number)
            for fraction in (NINTH, Fraction([0] * 24 + [1])):
                check_raises(self, TooMany, BOUND, Curve, number, fraction)
                check_raises(self, TooMany, BOUND, Curve, fraction, number)
                check_raises(self, TooMany, BOUND, Curve, fraction, fraction)
                check_raises(self, TooMany, BOUND, Curve, LETTER, fraction)
            check_raises(self, InvalidFraction, {"value": 1}, Curve, number, 1)
        self.assertEqual(Curve(EIGHTH, EIGHTH).passes(), 8)


if __name__ == "__main__":
    unittest.main()
