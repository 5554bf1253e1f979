"""[27]: dividers."""

import itertools
import unittest

import reference
from helpers import LETTER, NO_POLYS, STRANGE, check_raises, check_refusals, draw_poly, drawing, is_told, ratios, standing
from innerfractions.dividers import dividers, is_divider
from innerfractions.errors import InvalidMany, InvalidPoly, NoughtPoly, TooMany
from innerfractions.polys import degree, scaled, times
from innerfractions.ratios import Ratio
from known import drawn_product, monic

NOUGHTS = [[], (), [0, 0], [0] * 25]
NO_MANY = [None, True, False, -1, 9, 10 ** 20, "1", [1], (1,), Ratio(1), Ratio(0), STRANGE, object()]


def products(factors, many):
    """All products of this degree of factors, each from none to as often as it stands, sorted."""
    found = []
    for counts in itertools.product(*[range(often + 1) for _, often in factors]):
        product = ratios(1)
        for (factor, _), count in zip(factors, counts):
            for _ in range(count):
                product = times(product, factor)
        if degree(product) == many:
            found.append(product)
    return sorted(found, key=standing)


class Dividers(unittest.TestCase):
    def test_drawn_products(self):
        draw = drawing(61)
        for _ in range(80):
            poly, factors = drawn_product(draw, 8)
            for many in range(9):
                made = dividers(poly, many)
                self.assertEqual(made, products(factors, many))
                self.assertTrue(all(is_told(one) and one[-1] == Ratio(1) for one in made))
            self.assertEqual(dividers(many=1, poly=tuple(poly) + (0,)), products(factors, 1))

    def test_first_last_and_above(self):
        for poly in ([6, 5, 1], [1, 0, 0, 0, 1], [0] * 8 + [Ratio(-2, 3)], (3, 1)):
            self.assertEqual(dividers(poly, 0), [ratios(1)])
            self.assertEqual(dividers(poly, degree(poly)), [monic(poly)])
            for many in range(degree(poly) + 1, 9):
                self.assertEqual(dividers(poly, many), [])

    def test_numbers(self):
        for poly in ([7], [Ratio(-1, 2), 0]):
            self.assertEqual(dividers(poly, 0), [ratios(1)])
            self.assertEqual(dividers(poly, 1), [])
            self.assertEqual(dividers(poly, 8), [])

    def test_all_of_eight_lines(self):
        product = [1]
        for number in range(8):
            product = times(product, [-number, 1])
        self.assertEqual([len(dividers(product, many)) for many in range(9)], [1, 8, 28, 56, 70, 56, 28, 8, 1])

    def test_several_times(self):
        poly = times(times([0, 0, 1], [0, 1]), times([1, 1], [1, 1]))
        self.assertEqual(dividers(poly, 2), [ratios(0, 0, 1), ratios(0, 1, 1), ratios(1, 2, 1)])

    def test_sorted_by_worth(self):
        poly = times(times([Ratio(1, 2), 1], [Ratio(1, 3), 1]), times([-10, 1], [-9, 1]))
        self.assertEqual(dividers(poly, 1), [ratios(-10, 1), ratios(-9, 1), ratios(Ratio(1, 3), 1), ratios(Ratio(1, 2), 1)])

    def test_refused(self):
        refused = [("poly", InvalidPoly, NO_POLYS), ("many", InvalidMany, NO_MANY)]
        check_refusals(self, dividers, refused, {"poly": [1] * 9, "many": 8})
        check_refusals(self, dividers, refused, {"poly": [1], "many": 0})
        for nought in NOUGHTS:
            check_raises(self, NoughtPoly, {}, dividers, nought, 0)
            check_raises(self, InvalidMany, {"value": 9}, dividers, nought, 9)
        for poly in ([0] * 9 + [1], [1] * 25):
            check_raises(self, TooMany, {"what": "degree", "limit": 8}, dividers, poly, 0)
            check_raises(self, InvalidMany, {"value": -1}, dividers, poly, -1)


class IsDivider(unittest.TestCase):
    def test_of_whatever_head(self):
        poly = [0, -1, 0, 1]
        for value in ([2, 2], (Ratio(-1, 2), Ratio(1, 2)), [0, 5, 0], [3], [0, 1, 0, -1], (7,), [0, 1, 1]):
            self.assertIs(is_divider(poly, value), True)
            self.assertIs(is_divider(value=value, poly=poly), True)
        for value in ([2, 1], [0, 0, 1], [1, 0, 1], [0, 0, -1, 0, 1], [1] * 25):
            self.assertIs(is_divider(poly, value), False)

    def test_any_value(self):
        for value in NO_POLYS + NOUGHTS + [LETTER, {1: 1}]:
            self.assertIs(is_divider([0, -1, 0, 1], value), False, value)
            self.assertIs(is_divider([5], value), False, value)

    def test_of_numbers(self):
        self.assertIs(is_divider([5], [Ratio(-7, 3), 0]), True)
        self.assertIs(is_divider([5], [0, 1]), False)

    def test_drawn_to_the_greatest_degree(self):
        draw = drawing(62)
        for _ in range(120):
            poly, value = draw_poly(draw, 13), draw_poly(draw, 13)
            if degree(poly) < 0:
                continue
            if degree(value) >= 0:
                self.assertIs(is_divider(times(poly, value), value), True)
                self.assertIs(is_divider(scaled(times(poly, value), Ratio(-3, 7)), scaled(value, 11)), True)
                wanted = not reference.divided(reference.of(poly), reference.of(value))[1]
                self.assertIs(is_divider(poly, value), wanted)
        self.assertIs(is_divider([-1] + [0] * 23 + [1], [1, 1, 1]), True)

    def test_divider_of_a_divider(self):
        draw = drawing(63)
        for _ in range(10):
            poly, _ = drawn_product(draw, 8)
            for many in range(degree(poly) + 1):
                for one in dividers(poly, many):
                    for other in dividers(one, many // 2):
                        self.assertIs(is_divider(poly, other), True)

    def test_refused(self):
        check_refusals(self, is_divider, [("poly", InvalidPoly, NO_POLYS)], {"poly": [1] * 25, "value": None})
        for nought in NOUGHTS:
            check_raises(self, NoughtPoly, {}, is_divider, nought, [1])
            check_raises(self, NoughtPoly, {}, is_divider, nought, None)


if __name__ == "__main__":
    unittest.main()
