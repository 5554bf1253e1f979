"""[22] to [24]: bare ones, serving primes, pieces."""

import unittest
from math import gcd, lcm

from helpers import LETTER, NO_POLYS, NO_PRIMES, check_raises, check_refusals, draw_poly, drawing, exact, product_of
from innerfractions.errors import InvalidPoly, InvalidPrime, NotServed, NoughtPoly
from innerfractions.polys import degree, scaled
from innerfractions.primes import is_prime, piece_degrees, serves
from innerfractions.ratios import Ratio

SIXTEEN = [3, 5, 7, 11, 13, 17, 19, 23, 29, 31, 37, 41, 43, 47, 53, 59]
NOUGHTS = [[], (), [0, 0]]
TWO = [("poly", InvalidPoly, NO_POLYS), ("prime", InvalidPrime, NO_PRIMES)]


def bare(poly):
    """The bare one, reckoned anew."""
    numbers = [exact(number) for number in poly]
    while numbers[-1] == 0:
        numbers.pop()
    below = lcm(*[number.denominator for number in numbers])
    integers = [int(number * below) for number in numbers]
    shared = gcd(*integers)
    return [number // (shared if integers[-1] > 0 else -shared) for number in integers]


def monic_polys(many, prime):
    """All polynomials of this degree with the head 1 modulo the prime."""
    for code in range(prime ** many):
        yield [code // prime ** at % prime for at in range(many)] + [1]


def division(poly, other, prime):
    """(quotient, rest) modulo the prime; the other one has the head 1."""
    rest, quotient = [number % prime for number in poly], []
    while len(rest) >= len(other):
        lead = rest[-1]
        quotient.insert(0, lead)
        for at, number in enumerate(other):
            place = len(rest) - len(other) + at
            rest[place] = (rest[place] - lead * number) % prime
        rest.pop()
    return quotient, rest


def pieces_by_trial(poly, prime):
    """The pieces of a polynomial by trying all of less degree, each as often as it stands."""
    rest, found, many = [number % prime for number in poly], [], 1
    while len(rest) > 1:
        for other in monic_polys(many, prime):
            while len(rest) >= len(other) and not any(division(rest, other, prime)[1]):
                found.append(other)
                rest = division(rest, other, prime)[0]
        many += 1
    return found


class Primes(unittest.TestCase):
    def test_the_sixteen(self):
        self.assertEqual([number for number in range(-70, 200) if is_prime(number)], SIXTEEN)
        for number in SIXTEEN:
            self.assertIs(is_prime(value=number), True)

    def test_any_value(self):
        for value in NO_PRIMES + [LETTER, 10 ** 29, -59, object()]:
            self.assertIs(is_prime(value), False)


class Serves(unittest.TestCase):
    def test_heads(self):
        self.assertIs(serves([1, 3], 3), False)
        self.assertIs(serves([1, 3], 5), True)
        self.assertIs(serves([1, Ratio(1, 3)], 3), True)
        self.assertIs(serves([3, 3], 3), True)
        self.assertIs(serves([Ratio(1, 3), 1], 3), False)
        self.assertIs(serves([1, 3, 0, 0], 3), False)

    def test_squares(self):
        self.assertIs(serves([-3, 0, 1], 3), False)
        self.assertIs(serves([-3, 0, 1], 5), True)
        self.assertIs(serves([1, 0, 1], 5), True)
        self.assertIs(serves([-5, 0, 0, 1], 5), False)
        self.assertIs(serves([1, 2, 1], 7), False)
        for prime in SIXTEEN:
            self.assertIs(serves([0, 0, 1], prime), False)

    def test_powers_that_derive_to_nought(self):
        for prime in (3, 5, 7, 23):
            self.assertIs(serves([1] + [0] * (prime - 1) + [1], prime), False)
            self.assertIs(serves([0, -1] + [0] * (prime - 2) + [1], prime), True)

    def test_numbers(self):
        for prime in SIXTEEN:
            for number in ([7], [Ratio(prime, 2)], [Ratio(-1, prime), 0], (prime,)):
                self.assertIs(serves(number, prime), True)

    def test_by_trial(self):
        draw = drawing(41)
        for _ in range(150):
            poly, prime = draw_poly(draw, 7), draw.choice([3, 3, 5])
            if degree(poly) < 0:
                continue
            integers = bare(poly)
            wanted = integers[-1] % prime != 0
            if wanted:
                pieces = pieces_by_trial(integers, prime)
                wanted = all(pieces.count(piece) == 1 for piece in pieces)
            self.assertIs(serves(poly, prime), wanted)
            self.assertIs(serves(prime=prime, poly=poly), wanted)
            self.assertIs(serves(scaled(poly, Ratio(-prime, 6)), prime), wanted)

    def test_square_parts_are_served_by_none(self):
        draw = drawing(42)
        for _ in range(40):
            once, twice = draw_poly(draw, 5), draw_poly(draw, 5)
            if degree(once) >= 0 and degree(twice) >= 1:
                square = product_of([once, twice, twice])
                self.assertEqual([prime for prime in SIXTEEN if serves(square, prime)], [])

    def test_refused(self):
        check_refusals(self, serves, TWO, {"poly": [1, 1], "prime": 3})
        for nought in NOUGHTS:
            check_raises(self, NoughtPoly, {}, serves, nought, 3)
            check_raises(self, InvalidPrime, {"value": 2}, serves, nought, 2)


class Pieces(unittest.TestCase):
    def test_by_trial(self):
        draw, many = drawing(43), 0
        while many < 120:
            poly, prime = draw_poly(draw, 8), draw.choice([3, 3, 5])
            if degree(poly) < 0 or not serves(poly, prime):
                continue
            many += 1
            wanted = sorted(len(piece) - 1 for piece in pieces_by_trial(bare(poly), prime))
            self.assertEqual(piece_degrees(poly, prime), wanted)
            self.assertEqual(piece_degrees(prime=prime, poly=poly), wanted)

    def test_rise_and_add_up(self):
        draw = drawing(44)
        for _ in range(60):
            poly = draw_poly(draw, 25)
            for prime in draw.sample(SIXTEEN, 3):
                if degree(poly) >= 0 and serves(poly, prime):
                    degrees = piece_degrees(poly, prime)
                    self.assertIs(type(degrees), list)
                    self.assertEqual(degrees, sorted(degrees))
                    self.assertEqual(sum(degrees), degree(poly))

    def test_lines(self):
        # All numbers modulo the prime are roots of t to the prime less t.
        for prime in (3, 5, 7, 11, 13, 17, 19, 23):
            self.assertEqual(piece_degrees([0, -1] + [0] * (prime - 2) + [1], prime), [1] * prime)

    def test_fields(self):
        # t ** 9 - t holds all pieces of the degrees 1 and 2 modulo 3, t ** 24 - 1 those of 25 but t modulo 5.
        self.assertEqual(piece_degrees([0, -1] + [0] * 7 + [1], 3), [1] * 3 + [2] * 3)
        self.assertEqual(piece_degrees([-1] + [0] * 23 + [1], 5), [1] * 4 + [2] * 10)

    def test_never_one_piece(self):
        for prime in SIXTEEN:
            for poly in ([1, 0, 0, 0, 1], [1, 0, 0, 0, -1, 0, 0, 0, 1]):
                if serves(poly, prime):
                    self.assertGreater(len(piece_degrees(poly, prime)), 1)
        self.assertEqual(piece_degrees([1, 0, 0, 0, 1], 17), [1, 1, 1, 1])
        self.assertEqual(piece_degrees([1, 0, 0, 0, 1], 59), [2, 2])

    def test_numbers(self):
        for prime in SIXTEEN:
            self.assertEqual(piece_degrees([prime], prime), [])
            self.assertEqual(piece_degrees([Ratio(-2, 3), 0], prime), [])

    def test_refused(self):
        check_refusals(self, piece_degrees, TWO, {"poly": [1, 1], "prime": 3})
        for nought in NOUGHTS:
            check_raises(self, NoughtPoly, {}, piece_degrees, nought, 3)
            check_raises(self, InvalidPrime, {"value": 1}, piece_degrees, nought, 1)

    def test_not_served(self):
        for poly, prime in [([1, 3], 3), ([-3, 0, 1], 3), ([0, 0, 1], 59), ([1] + [0] * 22 + [1], 23)]:
            check_raises(self, NotServed, {}, piece_degrees, poly, prime)


if __name__ == "__main__":
    unittest.main()
