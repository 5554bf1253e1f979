"""[2], [5], [12], [13]: what polynomials are, and how they are reckoned."""

import copy
import unittest

import reference
from helpers import NO_NUMBERS, NO_POLYS, check_raises, check_refusals, draw_number, draw_poly, drawing, exact, is_told
from helpers import ratios
from innerfractions import polys
from innerfractions.errors import InvalidNumber, InvalidPoly, NoughtPoly, TooMany
from innerfractions.polys import degree, derived, divided, is_poly, minus, plus, put_in, scaled, times, told, worth
from innerfractions.ratios import Ratio

NOUGHTS = [[], (), [0], [0, 0], (Ratio(0), 0), [0] * 25]
HALF = Ratio(1, 2)


def drawn(seed, many, most=25):
    draw = drawing(seed)
    for _ in range(many):
        yield draw_poly(draw, most), draw_poly(draw, most), draw_number(draw)


class Kinds(unittest.TestCase):
    def test_polynomials(self):
        for value in NOUGHTS + [[1], (1,), [Ratio(1, 2), 0], [0, 0, 3], [1] * 25, (HALF,) * 25, [10 ** 40]]:
            self.assertIs(is_poly(value), True)
            self.assertIs(is_poly(value=value), True)

    def test_none(self):
        for value in NO_POLYS:
            self.assertIs(is_poly(value), False, value)


class Told(unittest.TestCase):
    def test_told(self):
        for poly, wanted in [([1, 0, 2, 0, 0], [1, 0, 2]), ((0, HALF, Ratio(0)), [0, HALF]), ([3], [3]), ([0, 0, 1], [0, 0, 1])]:
            self.assertEqual(told(poly), ratios(*wanted))
            self.assertTrue(is_told(told(poly)))
            self.assertEqual(told(poly=poly), told(told(poly)))

    def test_nought(self):
        for poly in NOUGHTS:
            self.assertEqual(told(poly), [])

    def test_twenty_five(self):
        self.assertEqual(told([1] * 25), ratios(*[1] * 25))
        self.assertEqual(told([1] + [0] * 24), ratios(1))

    def test_new_each_time(self):
        poly = ratios(1, 2)
        self.assertIsNot(told(poly), poly)
        told(poly).append(Ratio(1))
        self.assertEqual(told(poly), ratios(1, 2))

    def test_degree(self):
        for poly, wanted in [([5], 0), ([0, 1], 1), ([1, 0, 2, 0], 2), ([0] * 24 + [HALF], 24), ((Ratio(0), 3, Ratio(0)), 1)]:
            self.assertEqual(degree(poly), wanted)
            self.assertEqual(degree(poly=poly), wanted)
            self.assertIs(type(degree(poly)), int)
        for poly in NOUGHTS:
            self.assertEqual(degree(poly), -1)


class Reckoned(unittest.TestCase):
    def check(self, made, wanted):
        self.assertTrue(is_told(made))
        self.assertEqual([exact(number) for number in made], wanted)

    def test_sums(self):
        for poly, other, number in drawn(11, 150):
            one, two = reference.of(poly), reference.of(other)
            self.check(plus(poly, other), reference.plus(one, two))
            self.check(minus(poly, other), reference.minus(one, two))
            self.check(scaled(poly, number), reference.scaled(one, exact(number)))
            self.check(derived(poly), reference.derived(one))
            self.check(plus(poly=poly, other=other), reference.plus(one, two))
            self.check(minus(poly=poly, other=other), reference.minus(one, two))
            self.check(scaled(poly=poly, number=number), reference.scaled(one, exact(number)))
            self.check(derived(poly=poly), reference.derived(one))

    def test_heads_fall_away(self):
        self.assertEqual(plus([1, 2, 3], [1, -2, -3]), ratios(2))
        self.assertEqual(minus([1, HALF], (1, HALF, 0)), [])
        self.assertEqual(scaled([1, 2], 0), [])
        self.assertEqual(scaled([2, 4], HALF), ratios(1, 2))

    def test_derived_numbers(self):
        self.assertEqual(derived([5]), [])
        self.assertEqual(derived([]), [])
        self.assertEqual(derived([5, 1, 3]), ratios(1, 6))

    def test_products(self):
        for poly, other, _ in drawn(12, 100, 12):
            wanted = reference.times(reference.of(poly), reference.of(other))
            self.check(times(poly, other), wanted)
            self.check(times(other=other, poly=poly), wanted)

    def test_products_to_the_bound(self):
        ten, fourteen, full = [0] * 10 + [2], [1] + [0] * 13 + [3, 0, 0], [1] * 25
        self.assertEqual(degree(times(ten, fourteen)), 24)
        self.assertEqual(times(full, [HALF, 0]), ratios(*[HALF] * 25))
        for nought in NOUGHTS:
            self.assertEqual(times(full, nought), [])
            self.assertEqual(times(nought, full), [])
        for one, other in [([0] * 11 + [2], fourteen), (full, [0, 1]), ([0, 1], full), (full, full)]:
            check_raises(self, TooMany, {"what": "degree", "limit": 24}, times, one, other)

    def test_worth(self):
        for poly, _, number in drawn(13, 150):
            made = worth(poly, number)
            self.assertIs(type(made), Ratio)
            self.assertEqual(exact(made), reference.worth(reference.of(poly), exact(number)))
            self.assertEqual(worth(poly=poly, number=number), made)
        for nought in NOUGHTS:
            self.assertEqual(worth(nought, 7), Ratio(0))
        self.assertEqual(worth([3, 1], 0), Ratio(3))
        self.assertEqual(worth([3, 1], Ratio(0)), Ratio(3))

    def test_put_in(self):
        draw = drawing(14)
        for most, more in [(5, 7), (7, 5), (25, 2), (2, 25), (1, 25), (25, 1), (4, 4), (3, 3)] * 8:
            poly, other = draw_poly(draw, most), draw_poly(draw, more)
            wanted = reference.put_in(reference.of(poly), reference.of(other))
            self.check(put_in(poly, other), wanted)
            self.check(put_in(other=other, poly=poly), wanted)

    def test_put_in_noughts_and_numbers(self):
        full = [1] * 25
        self.assertEqual(put_in(full, []), ratios(1))
        self.assertEqual(put_in([], full), [])
        self.assertEqual(put_in([0, 0], full), [])
        self.assertEqual(put_in([5], full), ratios(5))
        self.assertEqual(put_in(full, [1]), ratios(25))
        self.assertEqual(put_in([0, HALF], [0]), [])

    def test_put_in_to_the_bound(self):
        self.assertEqual(degree(put_in([0, 0, 0, 0, 1], [1] * 7)), 24)
        self.assertEqual(degree(put_in([1] * 25, [1, 2])), 24)
        for poly, other in [([1] * 6, [1] * 6), ([1] * 25, [0, 0, 1]), ([0, 0, 1], [0] * 13 + [1]), ([1] * 25, [1] * 25)]:
            check_raises(self, TooMany, {"what": "degree", "limit": 24}, put_in, poly, other)

    def test_divided(self):
        for poly, other, _ in drawn(15, 150):
            if degree(other) < 0:
                continue
            made = divided(poly, other)
            self.assertIs(type(made), tuple)
            quotient, rest = reference.divided(reference.of(poly), reference.of(other))
            self.check(made[0], quotient)
            self.check(made[1], rest)
            self.assertEqual(divided(other=other, poly=poly), made)
            self.assertLess(degree(made[1]), degree(other))

    def test_divided_evenly(self):
        for poly, other, _ in drawn(16, 60, 12):
            if degree(other) >= 0:
                self.assertEqual(divided(times(poly, other), other), (told(poly), []))

    def test_divided_by_numbers_and_by_more(self):
        self.assertEqual(divided([2, 4], [2]), (ratios(1, 2), []))
        self.assertEqual(divided([2, 4], [1, 0, HALF, 0]), ([], ratios(2, 4)))
        self.assertEqual(divided([], [1, 2]), ([], []))

    def test_repeated_with_numbers_of_the_same_worth(self):
        self.assertEqual(times([1, 2], [3]), times((Ratio(1), Ratio(4, 2)), [Ratio(3), 0]))

    def test_arguments_stay(self):
        for poly, other, number in drawn(17, 40, 5):
            kept = copy.deepcopy((poly, other))
            for act in (plus, minus, times, put_in):
                act(poly, other)
            for act in (told, degree, derived, is_poly):
                act(poly)
            scaled(poly, number)
            worth(poly, number)
            if degree(other) >= 0:
                divided(poly, other)
            self.assertEqual((poly, other), kept)
            self.assertEqual([type(part) for part in poly], [type(part) for part in kept[0]])


class Refused(unittest.TestCase):
    POLY, OTHER, NUMBER = ("poly", InvalidPoly, NO_POLYS), ("other", InvalidPoly, NO_POLYS), ("number", InvalidNumber, NO_NUMBERS)

    def test_kinds(self):
        for name in ("told", "degree", "derived"):
            check_refusals(self, getattr(polys, name), [self.POLY], {"poly": [1, 2]})
        for name in ("plus", "minus", "times", "put_in", "divided"):
            check_refusals(self, getattr(polys, name), [self.POLY, self.OTHER], {"poly": [1, 2], "other": (3,)})
        for name in ("scaled", "worth"):
            check_refusals(self, getattr(polys, name), [self.POLY, self.NUMBER], {"poly": [1, 2], "number": 3})

    def test_divided_by_nought(self):
        for nought in NOUGHTS:
            for poly in ([1, 2], [], [1] * 25):
                check_raises(self, NoughtPoly, {}, divided, poly, nought)
            check_raises(self, InvalidPoly, {"value": None}, divided, None, nought)


if __name__ == "__main__":
    unittest.main()
