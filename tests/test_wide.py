"""[5], [63]: fractions of polynomials of great degrees in lowest terms, which steps come to."""

import unittest

from helpers import draw_fraction, drawing
from innerfractions.bare import multiplied, scaled_by
from innerfractions.fractions import Fraction, terms_of
from innerfractions.wide import EXPONENTS, reduced


def drawn(draw, degree, size):
    return [draw.randint(-size, size) for _ in range(degree)] + [draw.randint(1, size)]


class Reduced(unittest.TestCase):
    def check(self, fraction, shared, most):
        """The fraction, made of lists with a shared part, is found again, unless its degree is above most."""
        top, bottom = terms_of(fraction)
        made = reduced(multiplied(top, shared), multiplied(bottom, shared), most)
        self.assertEqual(made, fraction if fraction.degree <= most else None)

    def test_drawn(self):
        draw = drawing(211)
        for _ in range(40):
            fraction = draw_fraction(draw, draw.randint(0, 24))
            for degree in (0, 3, 30):
                self.check(fraction, drawn(draw, degree, 9), 24)

    def test_just_at_the_bound(self):
        draw = drawing(212)
        for degree in (1, 2, 5, 23, 24):
            fraction = draw_fraction(draw, degree)
            for shared in ([1], drawn(draw, 40, 9), drawn(draw, 2, 10 ** 30)):
                self.check(fraction, shared, 24)
                self.check(fraction, shared, degree)
                self.check(fraction, shared, degree - 1)

    def test_great_numbers(self):
        draw = drawing(213)
        for size in (10 ** 20, 10 ** 90, 10 ** 400):
            fraction = Fraction(drawn(draw, 3, size), drawn(draw, 4, size))
            for shared in (drawn(draw, 30, 9), drawn(draw, 30, size)):
                self.check(fraction, shared, 24)
                self.check(fraction, shared, 3)

    def test_nought(self):
        self.assertEqual(reduced([], [0, 2], 24), Fraction([]))
        self.assertEqual(reduced([], [1] * 60, 24), Fraction([]))

    def test_heads_that_a_prime_divides(self):
        draw = drawing(214)
        product = 1
        for exponent in EXPONENTS[:3]:
            product = product * (2 ** exponent - 1)
            for up, down in ((product, 1), (1, product), (product, product)):
                fraction = Fraction([1, 2, up], [3, 1, down])
                for shared in (drawn(draw, 30, 9), [*drawn(draw, 29, 9), product]):
                    self.check(fraction, shared, 24)
                    self.check(fraction, shared, 1)

    def test_numbers_that_a_prime_divides_all(self):
        draw = drawing(215)
        for exponent in EXPONENTS[:2]:
            for number in (2 ** exponent - 1, -(2 ** exponent - 1)):
                self.check(draw_fraction(draw, 3), scaled_by(drawn(draw, 30, 9), number), 24)

    def test_heads_that_all_primes_divide(self):
        product = 1
        for exponent in EXPONENTS:
            product = product * (2 ** exponent - 1)
        top, bottom, shared = [1, product], [1, 1, 0, 5], [0] * 24 + [1]
        made = reduced(multiplied(top, shared), multiplied(bottom, shared), 24)
        self.assertEqual(made, Fraction(top, bottom))
        self.assertIsNone(reduced(multiplied(top, shared), multiplied(bottom, shared), 2))
        self.assertEqual(reduced(scaled_by(multiplied(top, shared), 3), scaled_by(multiplied(bottom, shared), 3), 3), made)

    def test_degree_of_tops_and_of_bottoms(self):
        shared = [1] * 30
        for top, bottom in (([1] + [0] * 24 + [1], [1]), ([1], [1] + [0] * 24 + [1]), ([2, 1], [1] + [0] * 24 + [1])):
            self.assertIsNone(reduced(multiplied(top, shared), multiplied(bottom, shared), 24))
        self.assertEqual(reduced(multiplied([1, 1], shared), multiplied([1], shared), 1), Fraction([1, 1]))
        self.assertEqual(reduced(multiplied([1], shared), multiplied([1, 1], shared), 1), Fraction([1], [1, 1]))


if __name__ == "__main__":
    unittest.main()
