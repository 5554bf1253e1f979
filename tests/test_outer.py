"""[51] to [53]: inner and outer fractions, parting places."""

import unittest

import plain
from helpers import LETTER, NO_FRACTIONS, NO_PLACES, check_call, check_raises, check_refusals, draw_fraction, draw_place, drawing
from innerfractions.errors import InvalidFraction, NotFull, TooMany
from innerfractions.forms import divides
from innerfractions.fractions import Fraction, put
from innerfractions.moves import undone
from innerfractions.outer import is_inner, is_parting_place, outer, parting_place
from innerfractions.places import is_place
from innerfractions.ratios import Ratio
from innerfractions.twins import part

SQUARE, WAVE = Fraction([0, 0, 1]), Fraction([1, 0, 1], [0, 1])
BOTH = Fraction([1, 0, 0, 0, 1], [0, 0, 1])
NUMBERS = [Fraction([]), Fraction([5]), Fraction([1, 1], [2, 2])]
TWELFTH, THIRTEENTH = Fraction([0] * 12 + [1]), Fraction([1, 1], [0] * 13 + [1])
PLACES = ["beyond", 0, 1, -1, Ratio(1, 2), Ratio(3)]


class Checks(unittest.TestCase):
    def check_inner(self, fraction, inner, wanted):
        """The inner one is inner, with this outer one."""
        given = {"fraction": fraction, "inner": inner}
        made = check_call(self, outer, given)
        self.assertEqual(made, wanted)
        self.assertEqual(put(made, inner), fraction)
        self.assertTrue(made.is_full)
        self.assertIs(check_call(self, is_inner, given), True)
        self.assertIsNone(check_call(self, parting_place, given))
        for place in PLACES:
            self.assertTrue(divides(part(inner, place), part(fraction, place)))
            self.assertIs(is_parting_place(fraction, inner, place), False)

    def check_not_inner(self, fraction, inner):
        given = {"fraction": fraction, "inner": inner}
        self.assertIsNone(check_call(self, outer, given))
        self.assertIs(check_call(self, is_inner, given), False)
        place = check_call(self, parting_place, given)
        self.assertTrue(is_place(place))
        self.assertTrue(isinstance(place, Ratio) or place == "beyond")
        self.check_place(fraction, inner, place, True)
        for place in PLACES:
            self.check_place(fraction, inner, place, not divides(part(inner, place), part(fraction, place)))

    def check_place(self, fraction, inner, place, wanted):
        self.assertIs(is_parting_place(fraction, inner, place), wanted)
        self.assertIs(is_parting_place(value=place, inner=inner, fraction=fraction), wanted)
        spot = plain.spot(place)
        one, other = plain.part(plain.terms(inner), spot), plain.part(plain.terms(fraction), spot)
        self.assertEqual(wanted, not plain.divides(one, other))


class Inner(Checks):
    def test_put_together(self):
        draw = drawing(151)
        for _ in range(80):
            many = draw.randint(1, 4)
            one, other = draw_fraction(draw, many, 4), draw_fraction(draw, draw.randint(1, 12 // many), 4)
            self.check_inner(put(one, other), other, one)

    def test_with_great_numbers(self):
        draw = drawing(152)
        for many, fewer in [(2, 2), (3, 2), (2, 3), (4, 3), (6, 2), (2, 6)]:
            one = Fraction(draw_poly_of(draw, many), draw_poly_of(draw, many))
            other = Fraction(draw_poly_of(draw, fewer), draw_poly_of(draw, fewer))
            self.check_inner(put(one, other), other, one)

    def test_letter_and_itself(self):
        draw = drawing(153)
        for fraction in [LETTER, SQUARE, WAVE, BOTH, TWELFTH] + [draw_fraction(draw, draw.randint(1, 12)) for _ in range(20)]:
            self.check_inner(fraction, LETTER, fraction)
            self.check_inner(fraction, fraction, LETTER)

    def test_moves(self):
        draw = drawing(154)
        for _ in range(30):
            fraction, move = draw_fraction(draw, draw.randint(1, 6)), draw_fraction(draw, 1)
            self.check_inner(fraction, move, put(fraction, undone(move)))
            self.check_inner(put(move, fraction), fraction, move)
            self.check_inner(fraction, put(move, fraction), undone(move))

    def test_what_is_inner_to_an_inner_one_is_inner(self):
        draw = drawing(155)
        for _ in range(20):
            one, two, three = [draw_fraction(draw, 2, 3) for _ in range(3)]
            self.check_inner(put(one, put(two, three)), three, put(one, two))

    def test_known(self):
        self.check_inner(BOTH, WAVE, Fraction([-2, 0, 1]))
        self.check_inner(BOTH, SQUARE, WAVE)
        self.check_inner(BOTH, Fraction([-1, 0, 1], [0, 1]), Fraction([2, 0, 1]))
        self.check_inner(TWELFTH, Fraction([1], [0, 0, 0, 1]), Fraction([1], [0, 0, 0, 0, 1]))


class NotInner(Checks):
    def test_drawn(self):
        draw = drawing(156)
        for _ in range(60):
            many = draw.randint(1, 3)
            inner = draw_fraction(draw, draw.randint(2, 4), 3)
            fraction = draw_fraction(draw, many * inner.degree, 3)
            # Drawn fractions hardly ever have others inner to them; the plain judge says so.
            if plain.is_inner(plain.terms(fraction), plain.terms(inner)):
                self.check_inner(fraction, inner, outer(fraction, inner))
            else:
                self.check_not_inner(fraction, inner)

    def test_nearly_inner(self):
        draw = drawing(157)
        for _ in range(30):
            one, inner = draw_fraction(draw, 2, 3), draw_fraction(draw, draw.randint(2, 3), 3)
            whole = put(one, inner)
            near = Fraction(plus_one(whole.upper(), draw.randint(0, 3)), whole.lower())
            if near.degree == whole.degree and not plain.is_inner(plain.terms(near), plain.terms(inner)):
                self.check_not_inner(near, inner)

    def test_only_top_or_bottom(self):
        # The top alone, or the bottom alone, is a sum of the products.
        self.check_not_inner(Fraction([1, 0, 1, 0, 1], [1, 1]), SQUARE)
        self.check_not_inner(Fraction([1, 1], [1, 0, 1, 0, 1]), SQUARE)
        self.check_not_inner(Fraction([1, 0, 1, 0, 1], [1, 0, 1, 1]), SQUARE)

    def test_degrees_that_do_not_divide(self):
        for fraction, inner in [
            (SQUARE, Fraction([0, 0, 0, 1])), (LETTER, SQUARE), (Fraction([0, 0, 0, 1]), SQUARE), (WAVE, BOTH), (SQUARE, TWELFTH),
            (Fraction([0] * 6 + [1]), Fraction([0] * 4 + [1])), (TWELFTH, Fraction([0] * 5 + [1])),
        ]:
            self.check_not_inner(fraction, inner)

    def test_where_many_places_do_not_show_it(self):
        # Both are even up to a sum that is 0 at the first COUNTS, and at their opposites.
        odd = LETTER
        for number in range(1, 3):
            odd = odd * (LETTER * LETTER - number * number)
        self.check_not_inner(odd * LETTER * 0 + odd * odd + odd, SQUARE)

    def test_any_value(self):
        for value in NO_PLACES + [LETTER, [0], "beside"]:
            self.assertIs(is_parting_place(BOTH, Fraction([0, 1, 1]), value), False, value)
            self.assertIs(is_parting_place(BOTH, WAVE, value), False)
        self.assertIs(is_parting_place(BOTH, Fraction([0, 1, 1]), 0), True)
        self.assertIs(is_parting_place(BOTH, Fraction([0, 1, 1]), Ratio(0)), True)

    def test_judged_everywhere(self):
        draw = drawing(158)
        for _ in range(40):
            fraction, inner = draw_fraction(draw, draw.randint(1, 6), 2), draw_fraction(draw, draw.randint(1, 3), 2)
            for place in ["beyond", 0, draw_place(draw)]:
                wanted = not divides(part(inner, place), part(fraction, place))
                self.check_place(fraction, inner, place, wanted)


class Refused(unittest.TestCase):
    def test_kinds(self):
        refused = [("fraction", InvalidFraction, NO_FRACTIONS), ("inner", InvalidFraction, NO_FRACTIONS)]
        for function in (outer, is_inner, parting_place):
            check_refusals(self, function, refused, {"fraction": TWELFTH, "inner": WAVE})
        check_refusals(self, is_parting_place, refused, {"fraction": TWELFTH, "inner": WAVE, "value": None})

    def each(self):
        return [(outer, []), (is_inner, []), (parting_place, []), (is_parting_place, [0]), (is_parting_place, [None])]

    def test_not_full(self):
        for function, more in self.each():
            for number in NUMBERS:
                for fraction, inner in [(number, WAVE), (WAVE, number), (number, number), (number, THIRTEENTH), (THIRTEENTH, number)]:
                    check_raises(self, NotFull, {}, function, fraction, inner, *more)
            check_raises(self, InvalidFraction, {"value": None}, function, NUMBERS[0], None, *more)

    def test_bound(self):
        bound = {"what": "degree", "limit": 12}
        for function, more in self.each():
            for fraction, inner in [(THIRTEENTH, WAVE), (WAVE, THIRTEENTH), (THIRTEENTH, THIRTEENTH), (Fraction([0] * 24 + [1]), LETTER)]:
                check_raises(self, TooMany, bound, function, fraction, inner, *more)
            check_raises(self, InvalidFraction, {"value": None}, function, THIRTEENTH, None, *more)
            function(TWELFTH, TWELFTH, *more)


def draw_poly_of(draw, degree):
    """A polynomial of the degree with numbers of six digits above and below the stroke."""
    poly = [Ratio(draw.randint(-999999, 999999), draw.randint(1, 999999)) for _ in range(degree)]
    return poly + [draw.choice([-1, 1, Ratio(999999, 7)])]


def plus_one(poly, at):
    numbers = list(poly) + [0] * (at + 1 - len(poly))
    numbers[at] = numbers[at] + 1
    return numbers


if __name__ == "__main__":
    unittest.main()
