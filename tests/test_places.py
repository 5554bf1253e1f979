"""[6], [32], [35]: places, and worths at them."""

import unittest

import plain
from helpers import LETTER, NO_FRACTIONS, NO_PLACES, check_call, check_refusals, draw_fraction, draw_number, draw_place, drawing
from helpers import draw_poly, ratio
from innerfractions.errors import InvalidFraction, InvalidPlace
from innerfractions.fractions import Fraction, letter, put
from innerfractions.places import is_place, told_place, worth
from innerfractions.ratios import Ratio

PLACES = ["beyond", 0, 1, -7, 999999, Ratio(0), Ratio(1, 2), Ratio(-999999, 999998), 10 ** 40]
NUMBERS = [Fraction([]), Fraction([3]), Fraction([Ratio(-1, 2)]), Fraction([2, 2], [4, 4])]


class Places(unittest.TestCase):
    def test_any_value(self):
        for value in PLACES:
            self.assertIs(is_place(value), True)
            self.assertIs(is_place(value=value), True)
        for value in NO_PLACES + NUMBERS:
            self.assertIs(is_place(value), False, value)
        self.assertIs(is_place("".join(["bey", "ond"])), True)
        for many in range(25):
            self.assertIs(is_place(Fraction([1], [0] * many + [1])), False)

    def test_told(self):
        for place in PLACES:
            made = check_call(self, told_place, {"place": place})
            if place == "beyond":
                self.assertEqual(made, "beyond")
            else:
                self.assertIsInstance(made, Ratio)
                self.assertEqual(made, place if isinstance(place, Ratio) else ratio(place))

    def test_refused(self):
        check_refusals(self, told_place, [("place", InvalidPlace, NO_PLACES)], {"place": "beyond"})
        refused = [("fraction", InvalidFraction, NO_FRACTIONS), ("place", InvalidPlace, NO_PLACES)]
        check_refusals(self, worth, refused, {"fraction": LETTER, "place": 3})
        check_refusals(self, worth, refused, {"fraction": Fraction([]), "place": "beyond"})


class Worths(unittest.TestCase):
    def check(self, fraction, place):
        made = check_call(self, worth, {"fraction": fraction, "place": place})
        self.assertEqual(made, plain.told(plain.worth(plain.terms(fraction), plain.spot(place))))
        self.assertTrue(isinstance(made, Ratio) or made == "beyond")

    def test_drawn(self):
        draw = drawing(101)
        for _ in range(300):
            bottom = draw_poly(draw, 7)
            fraction = Fraction(draw_poly(draw, 7), bottom if any(n != 0 and n != Ratio(0) for n in bottom) else [1])
            for _ in range(4):
                self.check(fraction, draw_place(draw))

    def test_noughts_of_the_bottom(self):
        fraction = Fraction([1, 1], [0, -6, 1, 1])
        for place in (0, 2, -3, Ratio(2)):
            self.assertEqual(worth(fraction, place), "beyond")
        self.assertEqual(worth(fraction, -1), Ratio(0))
        self.assertEqual(worth(fraction, 1), Ratio(-1, 2))
        # What top and bottom have in common is no nought of the bottom.
        self.assertEqual(worth(Fraction([-1, 0, 1], [-1, 1]), 1), Ratio(2))

    def test_beyond(self):
        for top, bottom, wanted in [
            ([0, 0, 1], [1], "beyond"), ([1, 0, 5], [0, 2], "beyond"), ([1, 0, 5], [3, 1, 2], Ratio(5, 2)), ([1, 2], [0, 0, 1], Ratio(0)),
            ([1], [0, 3], Ratio(0)), ([0, -1], [7, 3], Ratio(-1, 3)), ([], [1], Ratio(0)), ([], [0, 4], Ratio(0)), ([5], [2], Ratio(5, 2)),
            ([0] * 24 + [2], [1] * 25, Ratio(2)), ([0] * 24 + [2], [1] * 24, "beyond"), ([1] * 23 + [2], [1] * 25, Ratio(0)),
        ]:
            self.assertEqual(worth(Fraction(top, bottom), "beyond"), wanted)

    def test_of_numbers(self):
        for fraction, wanted in zip(NUMBERS, (Ratio(0), Ratio(3), Ratio(-1, 2), Ratio(1, 2))):
            for place in PLACES:
                self.assertEqual(worth(fraction, place), wanted)

    def test_of_the_letter(self):
        for place in PLACES:
            self.assertEqual(worth(letter(), place), told_place(place))

    def test_of_the_greatest_degree(self):
        draw = drawing(102)
        for _ in range(10):
            fraction = draw_fraction(draw, 24)
            for _ in range(5):
                self.check(fraction, draw_place(draw))
        self.assertEqual(worth(Fraction([0] * 24 + [1], [1]), Ratio(-1, 2)), Ratio(1, 2 ** 24))

    def test_of_what_is_put_in(self):
        draw = drawing(103)
        for _ in range(60):
            one, other = draw_fraction(draw, draw.randint(1, 4)), draw_fraction(draw, draw.randint(1, 4))
            whole = put(one, other)
            for place in [draw_place(draw) for _ in range(5)] + ["beyond"]:
                self.assertEqual(worth(whole, place), worth(one, worth(other, place)))

    def test_of_moves_each_place_once(self):
        draw = drawing(104)
        for _ in range(40):
            move = draw_fraction(draw, 1)
            places = [told_place("beyond")] + [told_place(number) for number in range(-9, 10)]
            worths = [worth(move, place) for place in places]
            self.assertTrue(all(worths[:at].count(one) == 0 for at, one in enumerate(worths)))

    def test_the_same_worths_make_the_same_fraction(self):
        draw = drawing(105)
        for _ in range(60):
            many, fewer = draw.randint(0, 3), draw.randint(0, 3)
            one, other = draw_fraction(draw, many, 2), draw_fraction(draw, fewer, 2)
            places = (["beyond"] + list(range(-5, 6)))[:many + fewer + 1]
            alike = all(worth(one, place) == worth(other, place) for place in places)
            self.assertEqual(alike, one == other)

    def test_numbers_of_the_draws(self):
        draw = drawing(106)
        for _ in range(40):
            number = draw_number(draw)
            self.assertEqual(worth(LETTER * LETTER, number), told_place(number) * told_place(number))


if __name__ == "__main__":
    unittest.main()
