"""[21], [22], [25], [26]: factors, whole ones, roots."""

import copy
import unittest

from helpers import NO_POLYS, check_raises, check_refusals, drawing, is_told, ratios, standing
from innerfractions.errors import InvalidPoly, NoughtPoly, TooMany
from innerfractions.factors import factors, is_whole, roots
from innerfractions.polys import degree, scaled, times, told, worth
from innerfractions.ratios import Ratio
from known import WHOLE, drawn_product, monic, root_of

NOUGHTS = [[], (), [0, 0], [0] * 25]
HALF = Ratio(1, 2)


class Factors(unittest.TestCase):
    def check(self, poly, wanted):
        made = factors(poly)
        self.assertEqual(made, wanted)
        self.assertIs(type(made), list)
        for pair in made:
            self.assertIs(type(pair), tuple)
            self.assertTrue(is_told(pair[0]))
            self.assertEqual(pair[0][-1], Ratio(1))
            self.assertIs(type(pair[1]), int)

    def test_drawn_products(self):
        draw = drawing(51)
        for _ in range(250):
            poly, wanted = drawn_product(draw, 8)
            self.check(poly, wanted)
            self.check(tuple(poly) + (0, Ratio(0)), wanted)
            self.check(scaled(poly, Ratio(-999983, 6)), wanted)
            self.assertEqual(factors(poly=poly), wanted)

    def test_numbers(self):
        for poly in ([5], [Ratio(-1, 3), 0, 0], (1,)):
            self.check(poly, [])

    def test_whole_ones(self):
        for poly in WHOLE:
            self.check(poly, [(monic(poly), 1)])

    def test_sorted_by_numbers(self):
        lines = [[-3, 1], [-HALF, 1], [0, 1], [Ratio(1, 3), 1], [HALF, 1], [10, 1]]
        product = [1]
        for line in [lines[at] for at in (4, 0, 5, 2, 1, 3)]:
            product = times(product, line)
        self.check(product, [(told(line), 1) for line in lines])
        squares = times(times([2, 0, 1], [2, -1, 1]), times([-2, 0, 1], [5, 1]))
        self.check(squares, [(ratios(5, 1), 1), (ratios(-2, 0, 1), 1), (ratios(2, -1, 1), 1), (ratios(2, 0, 1), 1)])

    def test_how_often(self):
        self.check([0] * 8 + [3], [(ratios(0, 1), 8)])
        self.check(times([0, 0, 1], times([1, 0, 1], times([1, 0, 1], [1, 0, 1]))), [(ratios(0, 1), 2), (ratios(1, 0, 1), 3)])

    def test_pieces_in_lots(self):
        # Both fall into many pieces modulo each prime, and these must be put together in lots.
        self.check(times([1, 0, 0, 0, 1], [1, 0, -10, 0, 1]), [(ratios(1, 0, -10, 0, 1), 1), (ratios(1, 0, 0, 0, 1), 1)])
        self.check([4] + [0] * 3 + [1], [(ratios(2, -2, 1), 1), (ratios(2, 2, 1), 1)])
        self.check([-1] + [0] * 7 + [1], [
            (ratios(-1, 1), 1), (ratios(1, 1), 1), (ratios(1, 0, 1), 1), (ratios(1, 0, 0, 0, 1), 1),
        ])

    def test_served_by_no_prime_below_sixty(self):
        # The product of all primes below 60 divides the head: none of them serves.
        great = 1
        for prime in (2, 3, 5, 7, 11, 13, 17, 19, 23, 29, 31, 37, 41, 43, 47, 53, 59):
            great *= prime
        poly = times([1, 0, great], [3, great, 0, 1])
        self.check(poly, [(ratios(Ratio(1, great), 0, 1), 1), (ratios(3, great, 0, 1), 1)])
        self.check([-great * great, 0, 1], [(ratios(-great, 1), 1), (ratios(great, 1), 1)])

    def test_great_numbers(self):
        draw = drawing(52)
        for size in (10 ** 6, 10 ** 30, 10 ** 200):
            one = [draw.randint(-size, size) for _ in range(3)] + [draw.randint(1, size)]
            two = [draw.randint(-size, size) for _ in range(5)] + [draw.randint(1, size)]
            made = factors(times(one, two))
            product = [1]
            for factor, often in made:
                self.assertIs(is_whole(factor), True)
                for _ in range(often):
                    product = times(product, factor)
            self.assertEqual(product, monic(times(one, two)))
            self.assertGreaterEqual(len(made), 2)
        self.check(times([10 ** 100, 1], [1, 10 ** 100]), [(ratios(Ratio(1, 10 ** 100), 1), 1), (ratios(10 ** 100, 1), 1)])

    def test_heads_just_below_powers_of_primes(self):
        # Times the head a factor has a number just below 3 to the 16: its rest alone would not tell its sign.
        for number in (4637, 5000, 6560):
            self.check([-1, 0, number * number], [(ratios(Ratio(-1, number), 1), 1), (ratios(Ratio(1, number), 1), 1)])

    def test_many_lines_with_heads(self):
        product, lines = [1], [[-(at * at + 1), 2 * at + 3] for at in range(8)]
        for line in lines:
            product = times(product, line)
        self.check(product, [(line, 1) for line in sorted([monic(line) for line in lines], key=standing)])

    def test_refused(self):
        check_refusals(self, factors, [("poly", InvalidPoly, NO_POLYS)], {"poly": [1] * 9})
        for nought in NOUGHTS:
            check_raises(self, NoughtPoly, {}, factors, nought)
        for poly in ([0] * 9 + [1], [1] * 25):
            check_raises(self, TooMany, {"what": "degree", "limit": 8}, factors, poly)

    def test_bound(self):
        self.check([-3] + [0] * 7 + [1] + [0] * 16, [(ratios(-3, 0, 0, 0, 0, 0, 0, 0, 1), 1)])


class Whole(unittest.TestCase):
    def test_whole_ones(self):
        for poly in WHOLE:
            self.assertIs(is_whole(poly), True)
            self.assertIs(is_whole(poly=scaled(poly, Ratio(-3, 7)) + [0]), True)

    def test_products(self):
        draw = drawing(53)
        for _ in range(150):
            poly, made = drawn_product(draw, 8)
            self.assertIs(is_whole(poly), len(made) == 1 and made[0][1] == 1)

    def test_noughts_and_numbers(self):
        for poly in NOUGHTS + [[5], [HALF, 0], (1,)]:
            self.assertIs(is_whole(poly), False)

    def test_squares(self):
        self.assertIs(is_whole([1, 2, 1]), False)
        self.assertIs(is_whole([1, 0, 2, 0, 1]), False)

    def test_refused(self):
        check_refusals(self, is_whole, [("poly", InvalidPoly, NO_POLYS)], {"poly": [1] * 9})
        check_raises(self, TooMany, {"what": "degree", "limit": 8}, is_whole, [0] * 9 + [HALF])


class Roots(unittest.TestCase):
    def check(self, poly, wanted):
        made = roots(poly)
        self.assertEqual(made, wanted)
        self.assertTrue(all(type(pair) is tuple and type(pair[0]) is Ratio and type(pair[1]) is int for pair in made))

    def test_sorted(self):
        self.check([0, 0, -1, 2], [(Ratio(0), 2), (HALF, 1)])
        poly = times(times([3, 1], [3, 1]), times(times([-1, 3], [1, 2]), times([0, 0, 1], [1, 0, 1])))
        self.check(poly, [(Ratio(-3), 2), (Ratio(-1, 2), 1), (Ratio(0), 2), (Ratio(1, 3), 1)])

    def test_drawn_products(self):
        draw = drawing(54)
        for _ in range(200):
            poly, made = drawn_product(draw, 8)
            wanted = [(root_of(factor), often) for factor, often in reversed(made) if degree(factor) == 1]
            self.check(poly, wanted)
            self.assertEqual(roots(poly=tuple(poly) + (0,)), wanted)
            for root, _ in wanted:
                self.assertEqual(worth(poly, root), Ratio(0))

    def test_none(self):
        for poly in ([5], [1, 0, 1], [-2, 0, 1], [1, 0, 0, 0, 1]):
            self.check(poly, [])

    def test_refused(self):
        check_refusals(self, roots, [("poly", InvalidPoly, NO_POLYS)], {"poly": [1] * 9})
        for nought in NOUGHTS:
            check_raises(self, NoughtPoly, {}, roots, nought)
        check_raises(self, TooMany, {"what": "degree", "limit": 8}, roots, [0] * 9 + [1])


class Arguments(unittest.TestCase):
    def test_they_stay(self):
        draw = drawing(55)
        for _ in range(20):
            poly, _ = drawn_product(draw, 8)
            kept = copy.deepcopy(poly)
            for act in (factors, is_whole, roots):
                act(poly)
            self.assertEqual(poly, kept)


if __name__ == "__main__":
    unittest.main()
