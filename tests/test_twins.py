"""[42] to [45]: parts, how often fractions are taken, common parts, twins."""

import unittest

import plain
from helpers import EIGHTH, LETTER, NINTH, NO_FRACTION_LISTS, NO_FRACTIONS, NO_PLACES, check_call, check_raises, check_refusals
from helpers import draw_fraction, draw_place, drawing, exact, ratios
from innerfractions.errors import InvalidFraction, InvalidFractions, InvalidPlace, NotFull
from innerfractions.forms import divides, product, told_form
from innerfractions.fractions import Fraction, put
from innerfractions.places import told_place, worth
from innerfractions.ratios import Ratio
from innerfractions.turning import fibre
from innerfractions.twins import are_twins, common_part, part, taken, twins

SQUARE, CUBE, WAVE = Fraction([0, 0, 1]), Fraction([0, 0, 0, 1]), Fraction([1, 0, 1], [0, 1])
NUMBERS = [Fraction([]), Fraction([5]), Fraction([1, 1], [2, 2])]
PLACES = ["beyond", 0, 1, -1, 2, Ratio(1, 2)]


def led_form(form, fraction):
    """The form with the fraction put in for its letter, multiplied by its bottom as often as its degree tells."""
    many, total = len(form) - 1, None
    for at, number in enumerate(form):
        power = plain.put(([0] * at + [1], [1]), plain.terms(fraction))[0] if at else [1]
        for _ in range(many - at):
            power = plain.reference.times(power, plain.terms(fraction)[1])
        step = plain.reference.scaled(power, exact(number))
        total = step if total is None else plain.reference.plus(total, step)
    return total


class Parts(unittest.TestCase):
    def check(self, fraction, place):
        pair, spot = plain.terms(fraction), plain.spot(place)
        made = check_call(self, part, {"fraction": fraction, "place": place})
        self.assertEqual(made, plain.one(plain.part(pair, spot)))
        self.assertEqual(len(made), fraction.degree + 1)
        self.assertEqual(made, fibre(fraction, worth(fraction, place)))
        often = check_call(self, taken, {"fraction": fraction, "place": place})
        self.assertEqual(often, plain.often(plain.part(pair, spot), spot))
        self.assertIs(type(often), int)
        self.assertGreaterEqual(often, 1)

    def test_drawn(self):
        draw = drawing(131)
        for _ in range(150):
            fraction = draw_fraction(draw, draw.randint(1, 6), draw.choice([2, 9]))
            for place in ["beyond", 0, draw_place(draw), draw_place(draw)]:
                self.check(fraction, place)

    def test_greatest_degree(self):
        draw = drawing(132)
        for _ in range(4):
            fraction = draw_fraction(draw, 24, 2)
            for place in ("beyond", 0, -1, Ratio(2, 3)):
                self.check(fraction, place)
        self.assertEqual(taken(Fraction([1], [0] * 24 + [1]), 0), 24)
        self.assertEqual(taken(Fraction([0] * 24 + [1]), "beyond"), 24)

    def test_taken_several_times(self):
        for fraction, place, wanted in [
            (SQUARE, 0, 2), (SQUARE, "beyond", 2), (SQUARE, 1, 1), (CUBE, 0, 3), (WAVE, 1, 2), (WAVE, -1, 2), (WAVE, 0, 1), (WAVE, "beyond", 1),
            (Fraction([1], [0, 0, 0, 1, 1]), 0, 3), (Fraction([1], [0, 0, 0, 1, 1]), "beyond", 4), (Fraction([1], [0, 0, 0, 1, 1]), -1, 1),
            (Fraction([0, 0, 0, 1], [1, 1]), "beyond", 2), (Fraction([1, 0, 2], [3, 0, 1]), "beyond", 2), (LETTER, "beyond", 1),
            (Fraction([1, -2, 1], [4, 4, 1]), 1, 2), (Fraction([1, -2, 1], [4, 4, 1]), -2, 2), (Fraction([0, 0, 4, -4, 1]), 2, 2),
        ]:
            self.assertEqual(taken(fraction, place), wanted)
            self.check(fraction, place)

    def test_where_it_is_beyond(self):
        self.assertEqual(part(WAVE, 0), ratios(0, 1, 0))
        self.assertEqual(part(WAVE, "beyond"), ratios(0, 1, 0))
        self.assertEqual(part(Fraction([5], [-4, 0, 1]), 2), ratios(-4, 0, 1))
        self.assertEqual(part(SQUARE, "beyond"), ratios(1, 0, 0))

    def test_the_places_own_line_divides_it(self):
        draw = drawing(133)
        for _ in range(60):
            fraction, place = draw_fraction(draw, draw.randint(1, 8)), draw_place(draw)
            told = told_place(place)
            line = [1, 0] if told == "beyond" else [-told, 1]
            self.assertTrue(divides(line, part(fraction, place)))

    def test_put_in(self):
        draw = drawing(134)
        for _ in range(40):
            one, other = draw_fraction(draw, draw.randint(1, 3), 3), draw_fraction(draw, draw.randint(1, 3), 3)
            whole = put(one, other)
            for place in ["beyond", 0, draw_place(draw)]:
                self.assertTrue(divides(part(other, place), part(whole, place)))
                self.assertEqual(taken(whole, place), taken(other, place) * taken(one, worth(other, place)))
                led = led_form(part(one, worth(other, place)), other)
                self.assertEqual(part(whole, place), plain.one(plain.padded(led, whole.degree)))

    def test_refused(self):
        refused = [("fraction", InvalidFraction, NO_FRACTIONS), ("place", InvalidPlace, NO_PLACES)]
        for function in (part, taken):
            check_refusals(self, function, refused, {"fraction": WAVE, "place": "beyond"})
            for number in NUMBERS:
                for place in PLACES:
                    check_raises(self, NotFull, {}, function, number, place)
                    check_raises(self, NotFull, {}, function, place=place, fraction=number)
                check_raises(self, InvalidPlace, {"value": None}, function, number, None)


class CommonParts(unittest.TestCase):
    def check(self, fractions, place):
        spot = plain.spot(place)
        form = plain.part(plain.terms(fractions[0]), spot)
        for fraction in fractions[1:]:
            form = plain.common(form, plain.part(plain.terms(fraction), spot))
        made = check_call(self, common_part, {"fractions": fractions, "place": place})
        self.assertEqual(made, plain.one(form))
        listed = check_call(self, twins, {"fractions": fractions, "place": place})
        for twin, often in listed:
            self.assertEqual(plain.often(form, plain.spot(twin)), often)
            self.assertIs(are_twins(fractions, place, twin), True)
        told = [twin for twin, _ in listed]
        self.assertIn(told_place(place), told)
        for other in PLACES + [place]:
            is_one = all(worth(fraction, place) == worth(fraction, other) for fraction in fractions)
            self.assertIs(check_call(self, are_twins, {"fractions": fractions, "place": place, "second": other}), is_one)
            self.assertEqual(told_place(other) in told, is_one)

    def test_drawn(self):
        draw = drawing(135)
        for _ in range(60):
            fractions = [draw_fraction(draw, draw.randint(1, 8), 3) for _ in range(draw.randint(1, 4))]
            for place in ["beyond", draw_place(draw)]:
                self.check(tuple(fractions) if draw.random() < 0.3 else fractions, place)

    def test_of_one_inner(self):
        draw = drawing(136)
        for _ in range(40):
            inner = draw_fraction(draw, draw.randint(1, 4), 3)
            fractions = [put(draw_fraction(draw, draw.randint(1, 2), 3), inner) for _ in range(draw.randint(1, 4))]
            for place in ["beyond", 0, draw_place(draw)]:
                self.check(fractions, place)
                self.assertTrue(divides(part(inner, place), common_part(fractions, place)))

    def test_known(self):
        self.assertEqual(common_part([SQUARE, CUBE], 0), ratios(0, 0, 1))
        self.assertEqual(common_part([SQUARE, CUBE], "beyond"), ratios(1, 0, 0))
        for number in (1, -7, Ratio(5, 3)):
            self.assertEqual(common_part([SQUARE, CUBE], number), told_form([-number, 1]))
        self.assertEqual(twins([SQUARE, CUBE], "beyond"), [("beyond", 2)])
        self.assertEqual(twins([WAVE], 0), [(Ratio(0), 1), ("beyond", 1)])
        self.assertEqual(twins([WAVE], 2), [(Ratio(1, 2), 1), (Ratio(2), 1)])
        self.assertEqual(twins([CUBE], 2), [(Ratio(2), 1)])
        self.assertEqual(twins([EIGHTH], 0), [(Ratio(0), 8)])
        line, knot = [Fraction([-1, 0, 1]), Fraction([0, -1, 0, 1])], [(Ratio(-1), 1), (Ratio(1), 1)]
        self.assertEqual(twins(line, 1), knot)
        self.assertIs(are_twins(line, 1, -1), True)
        self.assertIs(are_twins(line, 0, 1), False)

    def test_each_is_its_own_twin(self):
        for place in PLACES:
            self.assertIs(are_twins([SQUARE, WAVE, CUBE, EIGHTH], place, place), True)

    def test_divides_each_part(self):
        form = common_part([put(WAVE, SQUARE), put(SQUARE, WAVE)], 3)
        self.assertTrue(divides(form, part(put(WAVE, SQUARE), 3)) and divides(form, part(put(SQUARE, WAVE), 3)))
        self.assertEqual(form, product([-9, 0, 1], [-1, 0, 9]))

    def test_refused(self):
        refused = [("fractions", InvalidFractions, NO_FRACTION_LISTS), ("place", InvalidPlace, NO_PLACES)]
        for function in (common_part, twins):
            check_refusals(self, function, refused, {"fractions": [EIGHTH] * 4, "place": 2})
            check_refusals(self, function, refused, {"fractions": (LETTER,), "place": "beyond"})
        refused = refused + [("second", InvalidPlace, NO_PLACES)]
        check_refusals(self, are_twins, refused, {"fractions": (WAVE, EIGHTH), "place": 0, "second": "beyond"})
        for numbers in ([NINTH], [WAVE, NUMBERS[1]]):
            check_raises(self, InvalidFractions, {"value": numbers}, twins, numbers, 0)


if __name__ == "__main__":
    unittest.main()
