"""[14]: common parts, shares, square parts."""

import copy
import unittest

import reference
from helpers import LETTER, NO_POLYS, STRANGE, check_raises, check_refusals, draw_poly, drawing, exact, is_told, product_of
from helpers import ratios
from innerfractions.errors import InvalidPoly, NoughtPoly
from innerfractions.parts import common, has_square, is_shares, shares
from innerfractions.polys import degree, divided, plus, scaled, times
from innerfractions.ratios import Ratio

NOUGHTS = [[], (), [0], [0] * 25]
HALF = Ratio(1, 2)
TWO = [("poly", InvalidPoly, NO_POLYS), ("other", InvalidPoly, NO_POLYS)]


def drawn_pairs(seed, many):
    """Pairs of polynomials, most of them with a common part."""
    draw = drawing(seed)
    for _ in range(many):
        shared = draw_poly(draw, draw.choice([1, 2, 4, 13]))
        yield times(draw_poly(draw, 12), shared), times(draw_poly(draw, 12), shared)


def made_of(poly, other, pair):
    """What the pair makes of both polynomials, reckoned anew."""
    first = reference.times(reference.of(pair[0]), reference.of(poly))
    return reference.plus(first, reference.times(reference.of(pair[1]), reference.of(other)))


class Common(unittest.TestCase):
    def test_drawn(self):
        for poly, other in drawn_pairs(21, 150):
            made = common(poly, other)
            self.assertTrue(is_told(made))
            self.assertEqual([exact(number) for number in made], reference.common(reference.of(poly), reference.of(other)))
            self.assertEqual(common(other=other, poly=poly), made)
            self.assertEqual(common(other, poly), made)

    def test_head_one_and_divides_both(self):
        for poly, other in drawn_pairs(22, 60):
            made = common(poly, other)
            if made:
                self.assertEqual(made[-1], Ratio(1))
                self.assertEqual([divided(poly, made)[1], divided(other, made)[1]], [[], []])

    def test_of_each_degree(self):
        for many in range(25):
            shared = [1] + [0] * (many - 1) + [2] if many else [1]
            wanted = scaled(shared, Ratio(1, shared[-1]))
            self.assertEqual(common(times(shared, [1, 1][:25 - many]), shared), wanted)
            if many <= 22:
                self.assertEqual(common(times(shared, [1, 1]), times(shared, [3, 0, HALF])), wanted)

    def test_noughts(self):
        for nought in NOUGHTS:
            for other in NOUGHTS:
                self.assertEqual(common(nought, other), [])
            self.assertEqual(common(nought, [2, 4]), ratios(HALF, 1))
            self.assertEqual(common((2, 4, 0), nought), ratios(HALF, 1))
            self.assertEqual(common([7], nought), ratios(1))

    def test_numbers(self):
        self.assertEqual(common([4], [6]), ratios(1))
        self.assertEqual(common([4], [0, 6]), ratios(1))
        self.assertEqual(common([0, 2], [HALF]), ratios(1))

    def test_great_primes_as_numbers(self):
        # Numbers that are 0 or alike modulo the primes that a program might reckon with.
        for prime in (2147483647, 2305843009213693951, 1000000007, 3):
            self.assertEqual(common([1, prime], [1, 2 * prime]), ratios(1))
            self.assertEqual(common([1, prime], [3, 3 * prime]), ratios(Ratio(1, prime), 1))
            self.assertEqual(common([0, 1], [prime, 1]), ratios(1))
            self.assertEqual(common(times([1, prime], [1, 1]), times([1, prime], [1, 2])), ratios(Ratio(1, prime), 1))

    def test_refused(self):
        check_refusals(self, common, TWO, {"poly": [1], "other": [1, 1]})


class Shares(unittest.TestCase):
    def check(self, poly, other):
        pair = shares(poly, other)
        self.assertIs(type(pair), tuple)
        self.assertEqual(len(pair), 2)
        self.assertTrue(is_told(pair[0]) and is_told(pair[1]))
        self.assertEqual(made_of(poly, other, pair), [exact(number) for number in common(poly, other)])
        self.assertIs(is_shares(poly, other, pair), True)
        self.assertEqual(shares(other=other, poly=poly), pair)
        for number in pair[0] + pair[1]:
            self.assertLess(max(abs(number.top), number.bottom), 10 ** 2000)

    def test_drawn(self):
        for poly, other in drawn_pairs(23, 120):
            self.check(poly, other)

    def test_greatest(self):
        draw = drawing(24)
        self.check(*[[draw.randint(-999999, 999999) for _ in range(25)] for _ in range(2)])
        self.check(*[[Ratio(draw.randint(-999999, 999999), draw.randint(1, 999999)) for _ in range(9)] for _ in range(2)])

    def test_noughts_and_numbers(self):
        sides = NOUGHTS + [[7], [HALF, 0], [0, 0, 3], [1] * 25]
        for poly in sides:
            for other in sides:
                self.check(poly, other)

    def test_refused(self):
        check_refusals(self, shares, TWO, {"poly": [1], "other": [1, 1]})


class IsShares(unittest.TestCase):
    def test_many_are(self):
        poly, other = [-1, 0, 1], [1, 2, 1]
        first, second = shares(poly, other)
        for extra in ([0], [1], [HALF, 2], [0, 0, -3]):
            # What the one share takes more of the one, the other one takes less of the other one.
            pair = (plus(first, times(extra, [1, 1])), plus(second, times(extra, [1, -1])))
            self.assertIs(is_shares(poly, other, pair), True)
            self.assertIs(is_shares(poly, other, tuple(tuple(part) for part in pair)), True)
            self.assertIs(is_shares(other=other, value=pair, poly=poly), True)
            self.assertIs(is_shares(poly, other, (plus(pair[0], [1]), pair[1])), False)

    def test_drawn_ones_are_not(self):
        draw = drawing(25)
        for poly, other in drawn_pairs(26, 80):
            pair = (draw_poly(draw, 25), draw_poly(draw, 25))
            wanted = made_of(poly, other, pair) == [exact(number) for number in common(poly, other)]
            self.assertIs(is_shares(poly, other, pair), wanted)

    def test_multiples_are_not(self):
        self.assertIs(is_shares([2], [0], ([HALF], [])), True)
        self.assertIs(is_shares([2], [0], ([1], [])), False)
        self.assertIs(is_shares([0, 1], [1], ([], [-1])), False)

    def test_two_noughts(self):
        for pair in [([], []), ([1], [2]), ((1,) * 25, [HALF])]:
            self.assertIs(is_shares([], [0], pair), True)
        self.assertIs(is_shares([], [0], ([1], None)), False)

    def test_any_value(self):
        good = ([], [1])
        self.assertIs(is_shares([0, 1], [1], good), True)
        others = [
            list(good), None, True, 1, "ab", b"ab", (), ([1],), ([], [1], []), {0: [], 1: [1]}, ([], 1), (None, [1]),
            ([], [True]), ([], "1"), ([], b"1"), ([0] * 26, [1]), ([], [1] + [0] * 25), LETTER, STRANGE, (STRANGE, STRANGE), object(),
        ]
        for value in others:
            self.assertIs(is_shares([0, 1], [1], value), False, value)
            self.assertIs(is_shares([], [], value), False, value)

    def test_refused(self):
        check_refusals(self, is_shares, TWO, {"poly": [1], "other": [1, 1], "value": None})


class Squares(unittest.TestCase):
    def test_numbers_and_lines(self):
        for poly in ([7], [Ratio(-1, 2), 0], [3, 1], [0, 5, 0]):
            self.assertIs(has_square(poly), False)
            self.assertIs(has_square(poly=poly), False)

    def test_products(self):
        draw = drawing(27)
        for _ in range(80):
            once, twice = draw_poly(draw, 8), draw_poly(draw, 8)
            if degree(once) >= 0 and degree(twice) >= 1:
                self.assertIs(has_square(product_of([once, twice, twice])), True)

    def test_by_common_part(self):
        draw = drawing(28)
        for _ in range(80):
            poly = draw_poly(draw, 25)
            if degree(poly) >= 0:
                exact_poly = reference.of(poly)
                shared = reference.common(exact_poly, reference.derived(exact_poly))
                self.assertIs(has_square(poly), len(shared) > 1)

    def test_whole_squares(self):
        self.assertIs(has_square([1, 0, 2, 0, 1]), True)
        self.assertIs(has_square([-2, 0, 1]), False)
        self.assertIs(has_square([0, 0, HALF]), True)
        self.assertIs(has_square([0] * 24 + [1]), True)
        self.assertIs(has_square([1] + [0] * 23 + [1]), False)

    def test_refused(self):
        check_refusals(self, has_square, [("poly", InvalidPoly, NO_POLYS)], {"poly": [1]})
        for nought in NOUGHTS:
            check_raises(self, NoughtPoly, {}, has_square, nought)


class Arguments(unittest.TestCase):
    def test_they_stay(self):
        for poly, other in drawn_pairs(29, 20):
            pair = shares(poly, other)
            kept = copy.deepcopy((poly, other, pair))
            common(poly, other)
            shares(poly, other)
            is_shares(poly, other, pair)
            self.assertEqual((poly, other, pair), kept)


if __name__ == "__main__":
    unittest.main()
