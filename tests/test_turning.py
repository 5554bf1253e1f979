"""[42], [46], [47]: fibres and turning forms."""

import unittest

import plain
import reference
from helpers import LETTER, NO_FRACTIONS, NO_PLACES, check_call, check_raises, check_refusals, draw_fraction, draw_place
from helpers import drawing, exact, ratios
from innerfractions.errors import InvalidFraction, InvalidPlace, NotFull, TooMany
from innerfractions.forms import common_form, places_of, product
from innerfractions.fractions import Fraction, put
from innerfractions.places import worth
from innerfractions.ratios import Ratio
from innerfractions.turning import fibre, turning
from innerfractions.twins import taken
from test_twins import led_form

SQUARE, WAVE = Fraction([0, 0, 1]), Fraction([1, 0, 1], [0, 1])
NUMBERS = [Fraction([]), Fraction([5]), Fraction([1, 1], [2, 2])]
TWELFTH = Fraction([1, 2], [0] * 12 + [1])


class Fibres(unittest.TestCase):
    def test_drawn(self):
        draw = drawing(141)
        for _ in range(120):
            fraction = draw_fraction(draw, draw.choice([1, 2, 3, 5, 8, 24]), 4)
            for place in ["beyond", 0, draw_place(draw)]:
                made = check_call(self, fibre, {"fraction": fraction, "worth": place})
                self.assertEqual(made, plain.one(plain.fibre(plain.terms(fraction), plain.spot(place))))
                self.assertEqual(len(made), fraction.degree + 1)

    def test_roots_have_the_worth(self):
        draw = drawing(142)
        for _ in range(60):
            fraction, goal = draw_fraction(draw, draw.randint(1, 4), 2), worth(draw_fraction(draw, 1, 2), draw_place(draw))
            found = places_of(fibre(fraction, goal))
            for place, often in found:
                self.assertEqual(worth(fraction, place), goal)
                self.assertEqual(taken(fraction, place), often)
            for place in ["beyond"] + list(range(-3, 4)):
                if worth(fraction, place) == goal:
                    self.assertIn(place, [one if one == "beyond" else one.top for one, _ in found if one == "beyond" or one.is_whole])

    def test_unlike_places_have_no_root_in_common(self):
        draw = drawing(143)
        for _ in range(40):
            fraction = draw_fraction(draw, draw.randint(1, 6))
            forms = [fibre(fraction, place) for place in ("beyond", 0, 1, Ratio(-2, 3))]
            for at, form in enumerate(forms):
                for other in forms[:at]:
                    self.assertEqual(common_form(form, other), ratios(1))

    def test_known(self):
        self.assertEqual(fibre(SQUARE, 9), ratios(-9, 0, 1))
        self.assertEqual(fibre(SQUARE, "beyond"), ratios(1, 0, 0))
        self.assertEqual(fibre(WAVE, "beyond"), ratios(0, 1, 0))
        self.assertEqual(fibre(Fraction([1, 2, 3], [5, 6, 3]), 1), ratios(1, 1, 0))
        self.assertEqual(fibre(LETTER, Ratio(2, 3)), ratios(Ratio(-2, 3), 1))

    def test_refused(self):
        refused = [("fraction", InvalidFraction, NO_FRACTIONS), ("worth", InvalidPlace, NO_PLACES)]
        check_refusals(self, fibre, refused, {"fraction": WAVE, "worth": "beyond"})
        for number in NUMBERS:
            for place in ("beyond", 5, 0):
                check_raises(self, NotFull, {}, fibre, number, place)
                check_raises(self, NotFull, {}, fibre, worth=place, fraction=number)
            check_raises(self, InvalidPlace, {"value": True}, fibre, number, True)


class Turning(unittest.TestCase):
    def test_drawn(self):
        draw = drawing(144)
        for _ in range(120):
            fraction = draw_fraction(draw, draw.choice([1, 2, 3, 4, 7, 12]), 4)
            made = check_call(self, turning, {"fraction": fraction})
            self.assertEqual(len(made), 2 * fraction.degree - 1)
            top, bottom = plain.terms(fraction)
            poly = reference.minus(reference.times(reference.derived(top), bottom), reference.times(top, reference.derived(bottom)))
            self.assertEqual(made, plain.one(plain.padded(poly, 2 * fraction.degree - 2)))

    def test_of_moves(self):
        draw = drawing(145)
        for _ in range(30):
            self.assertEqual(turning(draw_fraction(draw, 1)), ratios(1))

    def test_once_less_than_taken(self):
        draw = drawing(146)
        shared = [Fraction([0, 0, 1]), Fraction([0, 0, 0, 1], [1, -2, 1]), Fraction([1], [0, 0, 1, 1]), WAVE, Fraction([1, 0, 0, 1])]
        for _ in range(60):
            fraction = put(put(draw_fraction(draw, 1, 2), draw.choice(shared)), draw_fraction(draw, 1, 2))
            form = turning(fraction)
            for place, often in places_of(form):
                self.assertEqual(taken(fraction, place), often + 1)
            for place in ["beyond"] + list(range(-4, 5)):
                self.assertEqual(taken(fraction, place), plain.often([exact(number) for number in form], place) + 1)

    def test_places_taken_more_often_come_to_it(self):
        for fraction, wanted in [
            (SQUARE, [(Ratio(0), 1), ("beyond", 1)]), (WAVE, [(Ratio(-1), 1), (Ratio(1), 1)]), (Fraction([0, 0, 0, 1]), [(Ratio(0), 2), ("beyond", 2)]),
            (Fraction([1], [0, 0, 0, 0, 1]), [(Ratio(0), 3), ("beyond", 3)]), (Fraction([0, -3, 0, 1]), [(Ratio(-1), 1), (Ratio(1), 1), ("beyond", 2)]),
        ]:
            self.assertEqual(places_of(turning(fraction)), wanted)
            self.assertEqual(sum(often for _, often in wanted), 2 * fraction.degree - 2)

    def test_put_in(self):
        draw = drawing(147)
        for _ in range(50):
            one, other = draw_fraction(draw, draw.randint(1, 4), 3), draw_fraction(draw, draw.randint(1, 3), 3)
            led = led_form(turning(one), other)
            many = (2 * one.degree - 2) * other.degree
            self.assertEqual(turning(put(one, other)), product(turning(other), plain.padded_ratios(led, many)))

    def test_bound(self):
        self.assertEqual(len(turning(TWELFTH)), 23)
        for fraction in (Fraction([1, 2], [0] * 13 + [1]), Fraction([0] * 24 + [1])):
            check_raises(self, TooMany, {"what": "degree", "limit": 12}, turning, fraction)
            check_raises(self, TooMany, {"what": "degree", "limit": 12}, turning, fraction=fraction)

    def test_refused(self):
        check_refusals(self, turning, [("fraction", InvalidFraction, NO_FRACTIONS)], {"fraction": TWELFTH})
        for number in NUMBERS:
            check_raises(self, NotFull, {}, turning, number)


if __name__ == "__main__":
    unittest.main()
