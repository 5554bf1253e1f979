"""[54], [55]: classes, their told ones, the moves between fractions of one class."""

import unittest

import reference
from helpers import LETTER, NO_FRACTIONS, check_call, check_raises, check_refusals, draw_fraction, drawing, exact, is_told, ratio
from innerfractions.classes import class_of, move_between, same_class
from innerfractions.errors import InvalidFraction, NotFull
from innerfractions.fractions import Fraction, letter, put
from innerfractions.moves import is_move, undone
from innerfractions.outer import is_inner
from innerfractions.ratios import Ratio

SQUARE, WAVE = Fraction([0, 0, 1]), Fraction([1, 0, 1], [0, 1])
BOTH = Fraction([1, 0, 0, 0, 1], [0, 0, 1])
NUMBERS = [Fraction([]), Fraction([5]), Fraction([1, 1], [2, 2])]
# Of the class of 2 t t t + 5 over 3 t t + 1.
CUBIC = Fraction([Ratio(5, 2), 0, 0, 1], [Ratio(1, 3), 0, 1])
GREATEST = Fraction([1] * 24, [2] * 25)


def told_one(fraction):
    """[54]: by the rows in steps, reckoned anew."""
    rows = []
    for poly in (fraction.upper(), fraction.lower()):
        numbers = [exact(number) for number in poly]
        rows.append((numbers + [0] * (fraction.degree + 1 - len(numbers)))[::-1])
    return [[ratio(number) for number in row[::-1]] for row in reference.steps(rows)]


class Classes(unittest.TestCase):
    def check(self, fraction):
        made = check_call(self, class_of, {"fraction": fraction})
        self.assertIs(type(made), Fraction)
        many = fraction.degree
        self.assertEqual(made.degree, many)
        top, bottom = told_one(fraction)
        self.assertEqual(made.upper(), top)
        self.assertEqual(made.lower() + [Ratio(0)] * (many + 1 - len(made.lower())), bottom)
        self.assertTrue(is_told(made.upper()) and is_told(made.lower()))
        self.assertEqual((len(made.upper()), made.upper()[-1]), (many + 1, Ratio(1)))
        self.assertLess(len(made.lower()), many + 1)
        self.assertEqual(class_of(made), made)
        return made

    def check_between(self, fraction, other):
        given = {"fraction": fraction, "other": other}
        self.assertIs(check_call(self, same_class, given), True)
        move = check_call(self, move_between, given)
        self.assertIs(is_move(move), True)
        self.assertEqual(put(move, fraction), other)
        return move

    def test_each_degree(self):
        draw = drawing(161)
        for many in range(1, 25):
            for size in (2, 9):
                fraction, move = draw_fraction(draw, many, size), draw_fraction(draw, 1)
                led = put(move, fraction)
                self.assertEqual(self.check(fraction), self.check(led))
                self.assertEqual(self.check_between(fraction, led), move)
                self.assertEqual(self.check_between(led, fraction), undone(move))
                self.check_between(fraction, class_of(fraction))
                self.assertEqual(self.check_between(fraction, fraction), letter())

    def test_with_great_numbers(self):
        draw = drawing(162)
        for many in (1, 2, 5, 12):
            top = [Ratio(draw.randint(1, 999999), draw.randint(1, 999999)) for _ in range(many + 1)]
            fraction = Fraction(top, [1, Ratio(-2, 999983)])
            self.check(fraction)
            self.check_between(fraction, put(Fraction([Ratio(1, 999999), 3], [999998, -5]), fraction))

    def test_known(self):
        for fraction, wanted in [
            (LETTER, LETTER), (Fraction([1], [0, 1]), LETTER), (Fraction([3, -5], [2, 7]), LETTER), (Fraction([3, 2, 2]), Fraction([0, 1, 1])),
            (BOTH, BOTH), (Fraction([1], [0, 0, 1]), SQUARE), (Fraction([1, 0, 1], [-1, 0, 1]), SQUARE), (Fraction([0, 1], [1, 0, 1]), WAVE),
            (Fraction([1, 2, 1], [1, 4, 1]), WAVE), (Fraction([5, 0, 0, 2], [1, 0, 3]), CUBIC),
        ]:
            self.assertEqual(self.check(fraction), wanted)

    def test_of_one_class_are_inner_to_one_another(self):
        draw = drawing(163)
        for _ in range(20):
            fraction = draw_fraction(draw, draw.randint(1, 6))
            self.assertTrue(is_inner(fraction, class_of(fraction)) and is_inner(class_of(fraction), fraction))


class Unlike(unittest.TestCase):
    def check(self, fraction, other):
        for one, two in ((fraction, other), (other, fraction)):
            self.assertIs(check_call(self, same_class, {"fraction": one, "other": two}), False)
            self.assertIsNone(check_call(self, move_between, {"fraction": one, "other": two}))

    def test_drawn(self):
        draw = drawing(164)
        for _ in range(60):
            fraction, other = draw_fraction(draw, draw.randint(1, 4), 2), draw_fraction(draw, draw.randint(1, 4), 2)
            if fraction.degree == other.degree and told_one(fraction) == told_one(other):
                self.assertIs(same_class(fraction, other), True)
                self.assertEqual(put(move_between(fraction, other), fraction), other)
            else:
                self.check(fraction, other)

    def test_known(self):
        self.check(WAVE, BOTH)
        self.check(WAVE, SQUARE)
        self.check(LETTER, SQUARE)
        self.check(WAVE, put(WAVE, LETTER + 1))
        self.check(BOTH, put(SQUARE, BOTH))
        # A move on the right leaves the class, one on the left does not.
        self.check(SQUARE, put(SQUARE, Fraction([0, 1], [1, 1])))

    def test_top_or_bottom_alike(self):
        self.check(Fraction([0, 0, 1], [1, 1]), Fraction([0, 0, 1], [2, 1]))
        self.check(Fraction([0, 0, 1], [1, 1]), Fraction([0, 2, 1], [1, 1]) + Fraction([0, 0, 1]))


class Refused(unittest.TestCase):
    def test_kinds(self):
        check_refusals(self, class_of, [("fraction", InvalidFraction, NO_FRACTIONS)], {"fraction": GREATEST})
        refused = [("fraction", InvalidFraction, NO_FRACTIONS), ("other", InvalidFraction, NO_FRACTIONS)]
        for function in (same_class, move_between):
            check_refusals(self, function, refused, {"fraction": GREATEST, "other": LETTER})

    def test_not_full(self):
        for number in NUMBERS:
            check_raises(self, NotFull, {}, class_of, number)
            for function in (same_class, move_between):
                for one, other in [(number, WAVE), (WAVE, number), (number, number)]:
                    check_raises(self, NotFull, {}, function, one, other)
                    check_raises(self, NotFull, {}, function, other=other, fraction=one)
                check_raises(self, InvalidFraction, {"value": None}, function, number, None)


if __name__ == "__main__":
    unittest.main()
