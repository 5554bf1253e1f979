"""[1], [4]: what the overview tells of the whole program, and that its parts agree with one another."""

import unittest

from helpers import draw_fraction, drawing
from innerfractions.claims import contrary, is_paper_of, is_true, paper_of
from innerfractions.curves import Curve
from innerfractions.doubles import same_curve
from innerfractions.equations import equation, is_letter_back, is_on, letter_back
from innerfractions.fractions import Fraction, letter, put
from innerfractions.halves import all_inner
from innerfractions.kept import is_kept_apart, kept_apart
from innerfractions.made import is_made, is_made_steps, made_steps
from innerfractions.moves import is_move
from innerfractions.ones import outers, tells_letter, the_one
from innerfractions.outer import is_inner
from innerfractions.readers import read
from innerfractions.texts import written
from innerfractions.twins import twins

T = letter()
SQUARE, CUBE = T * T, T * T * T
# What somebody reckoned of t: t t + 1 / (t t) and t - 1 / t.
TOLD = [SQUARE + Fraction([1]).over(SQUARE), T - Fraction([1]).over(T)]


def power(many):
    return Fraction([0] * many + [1])


class Overview(unittest.TestCase):
    def test_cannot_be_reckoned_back(self):
        self.assertIs(tells_letter(TOLD), False)
        self.assertEqual(the_one(TOLD), TOLD[1])
        self.assertEqual(outers(TOLD), [SQUARE + 2, T])
        # t and - 1 / t always give the same.
        for number in (1, 2, 5):
            self.assertEqual([str(place) for place, _ in twins(TOLD, number)], [str(Fraction([-1], [number]).upper()[0]), str(number)])
        self.assertIs(is_made(TOLD, T), False)
        self.assertIs(is_kept_apart(TOLD, T, kept_apart(TOLD, T)), True)

    def test_can_be_reckoned_back(self):
        self.assertIs(tells_letter([SQUARE, CUBE]), True)
        steps = made_steps([SQUARE, CUBE], T)
        self.assertIs(is_made_steps([SQUARE, CUBE], T, steps), True)
        self.assertIs(is_made_steps([SQUARE, CUBE], T, [(1, 0, [[0], [1]], [[0, 1]])]), True)
        curve = Curve(SQUARE, CUBE)
        self.assertIs(is_letter_back(curve, letter_back(curve)), True)

    def test_of_three_but_not_of_two(self):
        # As t to the 6, to the 10 and to the 15, with degrees within the limits.
        for first, second, one in [(6, 4, 2), (6, 3, 3), (4, 8, 4), (8, 6, 2)]:
            self.assertEqual(the_one([power(first), power(second)]), power(one))
        self.assertEqual(the_one([power(6), power(4), power(3)]), T)


class Agreed(unittest.TestCase):
    """[4]: the guarantees, at fractions that are put together and at others."""

    def test_guarantees(self):
        draw = drawing(501)
        for _ in range(15):
            inner = draw_fraction(draw, draw.randint(1, 3), 3)
            told = [put(draw_fraction(draw, draw.randint(1, 8 // inner.degree), 3), inner) for _ in range(2)]
            one = the_one(told)
            for fraction in told:
                self.assertIs(is_inner(fraction, one), True)
                self.assertIs(is_made([one], fraction), True)
            self.assertIs(is_made(told, one), True)
            for fraction in (one, inner, T, draw_fraction(draw, 4, 3)):
                claim = ("made", told, fraction)
                true = claim if is_true(claim) else contrary(claim)
                self.assertIs(is_paper_of(true, paper_of(true)), True)
                self.assertIsNone(paper_of(contrary(true)))
                sort, steps = read(written("steps", made_steps([one, T], fraction)))
                self.assertEqual(sort, "steps")
                self.assertIs(is_made_steps([one, T], fraction, steps), True)
            curve = Curve(*told)
            self.assertEqual(curve.passes(), one.degree)
            self.assertIs(is_move(same_curve(curve, curve.plain())), True)

    def test_inner_ones_and_curves(self):
        draw = drawing(502)
        for _ in range(10):
            fraction = put(draw_fraction(draw, 2, 3), draw_fraction(draw, draw.randint(1, 3), 3))
            for one in all_inner(fraction):
                curve = Curve(fraction, one)
                self.assertEqual(curve.passes(), one.degree)
                point = curve.point(7)
                if "beyond" not in point:
                    self.assertIs(is_on(curve, point), True)
                if curve.plain().first().degree <= 4:
                    self.assertEqual(read(written("grid", equation(curve))), ("grid", equation(curve)))


if __name__ == "__main__":
    unittest.main()
