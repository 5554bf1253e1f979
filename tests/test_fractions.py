"""[5], [31] to [33]: Fractions, how they are reckoned, put in, derived."""

import copy
import unittest

import reference
from helpers import LETTER, NO_FRACTIONS, NO_POLYS, check_raises, check_refusals, draw_number, draw_poly, drawing, exact
from helpers import is_told, ratios
from innerfractions.errors import Beyond, DividedByZero, InvalidFraction, InvalidPoly, NoughtBottom, TooMany
from innerfractions.fractions import Fraction, letter, put, slope
from innerfractions.polys import degree, times
from innerfractions.ratios import Ratio

NOUGHTS = [[], (), [0], [0, Ratio(0)], [0] * 25]
HALF = Ratio(1, 2)
BOUND = {"what": "degree", "limit": 24}
ACTS = {
    "+": lambda fraction, other: fraction + other,
    "-": lambda fraction, other: fraction - other,
    "*": lambda fraction, other: fraction * other,
    "over": lambda fraction, other: fraction.over(other),
}


def drawn(draw, most=5):
    """A Fraction of a degree below most."""
    bottom = []
    while degree(bottom) < 0:
        bottom = draw_poly(draw, most)
    return Fraction(draw_poly(draw, most), bottom)


def terms(fraction):
    return reference.of(fraction.upper()), reference.of(fraction.lower())


def lowest(top, bottom):
    """Top and bottom in lowest terms, the bottom's head 1, reckoned anew."""
    shared = reference.common(top, bottom)
    up, down = reference.divided(top, shared)[0], reference.divided(bottom, shared)[0]
    return reference.scaled(up, 1 / down[-1]), reference.scaled(down, 1 / down[-1])


class Checks(unittest.TestCase):
    def check(self, made, top, bottom):
        """The Fraction is told, and it is the quotient of these two."""
        self.assertIs(type(made), Fraction)
        self.assertTrue(is_told(made.upper()) and is_told(made.lower()))
        self.assertEqual(terms(made), lowest(top, bottom))


class Made(Checks):
    def test_drawn(self):
        draw = drawing(71)
        for _ in range(150):
            shared, up, down = draw_poly(draw, 8), draw_poly(draw, 8), draw_poly(draw, 8)
            top, bottom = times(up, shared), times(down, shared)
            if degree(bottom) < 0:
                continue
            made = Fraction(top, bottom)
            self.check(made, reference.of(top), reference.of(bottom))
            self.assertEqual(made, Fraction(bottom=tuple(bottom), top=tuple(top)))
            self.assertEqual(made, Fraction(up, down))
            self.assertEqual(made.degree, max(0, degree(made.upper()), degree(made.lower())))

    def test_default_bottom(self):
        self.assertEqual(Fraction([0, 2]), Fraction([0, 2], [1]))
        self.assertEqual(Fraction(top=[0, 2]).lower(), ratios(1))

    def test_degree_full_move(self):
        for top, bottom, wanted in [
            ([], [1], 0), ([0, 0], [0, 0, 5], 0), ([7], [HALF], 0), ([2, 2], [1, 1], 0), ([0, 1], [1], 1), ([1], [0, 1], 1),
            ([1, 2], [3, 4], 1), ([1, 2], [2, 4, 0], 0), ([0, 0, 1], [0, 1], 1), ([1, 0, 1], [0, 1], 2), ([1], [0, 0, 0, 1], 3),
            ([0] * 24 + [1], [1] * 25, 24), ([1] * 25, [1] * 25, 0),
        ]:
            made = Fraction(top, bottom)
            self.assertEqual(made.degree, wanted)
            self.assertIs(type(made.degree), int)
            self.assertIs(made.is_full, wanted >= 1)
            self.assertIs(made.is_move, wanted == 1)

    def test_nought(self):
        for top in NOUGHTS:
            made = Fraction(top, [0, 0, 3])
            self.assertEqual((made.upper(), made.lower()), ([], ratios(1)))
            self.assertEqual(made.degree, 0)

    def test_head_of_the_bottom(self):
        made = Fraction([4, Ratio(2, 3)], [0, -2, 0])
        self.assertEqual((made.upper(), made.lower()), (ratios(-2, Ratio(-1, 3)), ratios(0, 1)))

    def test_new_lists_each_time(self):
        made = Fraction([1, 2], [3, 4])
        made.upper().append(Ratio(9))
        made.lower().clear()
        self.assertEqual((made.upper(), made.lower()), (ratios(Ratio(1, 4), HALF), ratios(Ratio(3, 4), 1)))

    def test_copies_what_it_is_given(self):
        top, bottom = [1, 2], [3, 4]
        made = Fraction(top, bottom)
        top.append(5)
        bottom[0] = 0
        self.assertEqual(made, Fraction([1, 2], [3, 4]))

    def test_never_changes(self):
        for name in ("degree", "is_full", "is_move"):
            with self.assertRaises(AttributeError):
                setattr(Fraction([1]), name, 1)

    def test_refused(self):
        refused = [("top", InvalidPoly, NO_POLYS), ("bottom", InvalidPoly, NO_POLYS)]
        check_refusals(self, Fraction, refused, {"top": [1] * 25, "bottom": (1,)})
        check_refusals(self, Fraction, refused[:1], {"top": [1]})
        for nought in NOUGHTS:
            check_raises(self, NoughtBottom, {}, Fraction, [1], nought)
            check_raises(self, NoughtBottom, {}, Fraction, top=[], bottom=nought)
            check_raises(self, InvalidPoly, {"value": None}, Fraction, None, nought)


class Equal(unittest.TestCase):
    def test_the_same(self):
        self.assertTrue(Fraction([2, 2], [0, 4]) == Fraction([Ratio(-1, 2), Ratio(-1, 2), 0], [0, -1]))
        self.assertTrue(Fraction([-1, 0, 1], [1, 1]) == Fraction([-1, 1]))
        self.assertFalse(Fraction([2, 2], [0, 4]) != Fraction([1, 1], [0, 2]))

    def test_others(self):
        one = Fraction([1, 1], [0, 2])
        for other in (Fraction([1, 1], [0, 3]), Fraction([1, 2], [0, 2]), Fraction([0, 2], [1, 1]), Fraction([1, 1]), Fraction([])):
            self.assertFalse(one == other)
            self.assertTrue(one != other)

    def test_never_with_others(self):
        three = Fraction([3])
        for value in (3, Ratio(3), "3", None, True, [3], (3,), ([3], [1]), object()):
            self.assertFalse(three == value)
            self.assertFalse(value == three)
            self.assertTrue(three != value)
            self.assertTrue(value != three)

    def test_repr(self):
        self.assertEqual(repr(letter()), "Fraction([Ratio(0, 1), Ratio(1, 1)], [Ratio(1, 1)])")
        self.assertEqual(repr(Fraction([])), "Fraction([], [Ratio(1, 1)])")
        self.assertEqual(repr(Fraction([1, 0], [3, -2])), "Fraction([Ratio(-1, 2)], [Ratio(-3, 2), Ratio(1, 1)])")

    def test_letter(self):
        self.assertEqual(letter(), Fraction([0, 1]))
        self.assertEqual((letter().upper(), letter().lower()), (ratios(0, 1), ratios(1)))
        self.assertIs(letter().is_move, True)


class Reckoned(Checks):
    def test_with_fractions(self):
        draw = drawing(72)
        for _ in range(100):
            one, other = drawn(draw), drawn(draw)
            (p, q), (u, v) = terms(one), terms(other)
            below = reference.times(q, v)
            self.check(one + other, reference.plus(reference.times(p, v), reference.times(u, q)), below)
            self.check(one - other, reference.minus(reference.times(p, v), reference.times(u, q)), below)
            self.check(one * other, reference.times(p, u), below)
            self.check(-one, reference.scaled(p, -1), q)
            if u:
                self.check(one.over(other), reference.times(p, v), reference.times(q, u))
                self.check(one.over(other=other), reference.times(p, v), reference.times(q, u))

    def test_with_numbers(self):
        draw = drawing(73)
        for _ in range(80):
            one, number = drawn(draw), draw_number(draw)
            p, q = terms(one)
            worth = exact(number)
            much = reference.scaled(q, worth)
            self.check(one + number, reference.plus(p, much), q)
            self.check(one - number, reference.minus(p, much), q)
            self.check(one * number, reference.scaled(p, worth), q)
            if worth:
                self.check(one.over(number), p, much)

    def test_integers_on_the_left(self):
        draw = drawing(74)
        for number in list(range(-12, 13)) + [10 ** 30]:
            one = drawn(draw)
            p, q = terms(one)
            much = reference.scaled(q, number)
            self.check(number + one, reference.plus(p, much), q)
            self.check(number - one, reference.minus(much, p), q)
            self.check(number * one, reference.scaled(p, number), q)

    def test_lowest_terms(self):
        t = letter()
        self.assertEqual((t - t).lower(), ratios(1))
        self.assertEqual(t * Fraction([1], [0, 1]), Fraction([1]))
        self.assertEqual((t * t - 1).over(t + 1), t - 1)
        self.assertEqual(Fraction([1], [0, 1]) + Fraction([-1, 1], [0, 1]), Fraction([1]))

    def test_refused(self):
        bad = NO_FRACTIONS + [[], ""]
        for act in ACTS.values():
            for other in (LETTER, 3, HALF):
                check_refusals(self, act, [("other", InvalidFraction, bad)], {"fraction": LETTER, "other": other})

    def test_divided_by_zero(self):
        for nought in (0, Ratio(0), Fraction([]), Fraction([0], [0, 2])):
            for one in (LETTER, Fraction([]), Fraction([1] * 25)):
                check_raises(self, DividedByZero, {}, one.over, nought)

    def test_bound(self):
        high, low = Fraction([0] * 24 + [1]), Fraction([1], [0] * 24 + [1])
        self.assertEqual((high * low).degree, 0)
        self.assertEqual((high - high).degree, 0)
        self.assertEqual(high.over(high), Fraction([1]))
        self.assertEqual((high + 1).degree, 24)
        self.assertEqual((Fraction([1], [1] + [0] * 11 + [1]) * Fraction([1], [2] + [0] * 11 + [1])).degree, 24)
        self.assertEqual(high.over(Fraction([0, 1])).degree, 23)
        half = Fraction([1], [1] + [0] * 12 + [1])
        for name, act in ACTS.items():
            for one, other in [(half, Fraction([1, 1], [2] + [0] * 12 + [1])), (half, Fraction([3], [2] + [0] * 11 + [1]))]:
                if name == "over":
                    other = Fraction([1]).over(other)
                check_raises(self, TooMany, BOUND, act, one, other)
        check_raises(self, TooMany, BOUND, ACTS["*"], high, LETTER)
        check_raises(self, TooMany, BOUND, ACTS["+"], high, Fraction([1], [1, 1]))
        check_raises(self, TooMany, BOUND, ACTS["-"], low, LETTER)
        check_raises(self, TooMany, BOUND, ACTS["over"], low, LETTER)

    def test_arguments_stay(self):
        one, other = Fraction([1, 2], [3, 0, 1]), Fraction([0, 1], [5, 1])
        kept = copy.deepcopy((one, other))
        for act in ACTS.values():
            act(one, other)
        put(one, other)
        slope(one)
        self.assertEqual((one, other), kept)


class Put(Checks):
    def test_full_ones(self):
        draw = drawing(75)
        for _ in range(80):
            one, other = drawn(draw, 5), drawn(draw, 5)
            if not other.is_full:
                continue
            (p, q), (u, v), many = terms(one), terms(other), one.degree
            made = put(one, other)
            self.check(made, *[self.homogeneous(poly, u, v, many) for poly in (p, q)])
            self.assertEqual(made.degree, one.degree * other.degree)
            self.assertEqual(put(other=other, fraction=one), made)

    def homogeneous(self, poly, up, down, many):
        total = []
        for at, number in enumerate(poly):
            term = [number]
            for _ in range(at):
                term = reference.times(term, up)
            for _ in range(many - at):
                term = reference.times(term, down)
            total = reference.plus(total, term)
        return total

    def test_by_sums_and_products(self):
        t, other = letter(), Fraction([1, 0, 3], [0, 2, 1])
        one = (t * t * 3 - HALF).over(t + 5)
        self.assertEqual(put(one, other), (other * other * 3 - HALF).over(other + 5))
        self.assertEqual(put(one, t), one)
        self.assertEqual(put(t, one), one)

    def test_numbers(self):
        draw = drawing(76)
        for _ in range(80):
            one, number = drawn(draw), draw_number(draw)
            p, q = terms(one)
            top, bottom = reference.worth(p, exact(number)), reference.worth(q, exact(number))
            if bottom:
                self.check(put(one, Fraction([number])), reference.cut([top]), [bottom])
            else:
                check_raises(self, Beyond, {}, put, one, Fraction([number]))
            self.assertEqual(put(Fraction([number]), one), Fraction([number]))

    def test_beyond(self):
        check_raises(self, Beyond, {}, put, Fraction([1], [0, 1]), Fraction([]))
        check_raises(self, Beyond, {}, put, Fraction([1] * 25, [-3, 1]), Fraction([3]))
        check_raises(self, Beyond, {}, put, fraction=Fraction([1], [-1, 0, 4]), other=Fraction([HALF]))
        self.assertEqual(put(Fraction([-1, 0, 1], [-1, 1]), Fraction([1])), Fraction([2]))

    def test_bound(self):
        self.assertEqual(put(Fraction([1] * 7, [0, 1]), Fraction([1], [0, 0, 0, 0, 1])).degree, 24)
        self.assertEqual(put(Fraction([1] * 25), Fraction([1, 2], [3, 1])).degree, 24)
        self.assertEqual(put(Fraction([1] * 25), Fraction([2])), Fraction([2 ** 25 - 1]))
        self.assertEqual(put(Fraction([5]), Fraction([1] * 25)), Fraction([5]))
        for one, other in [([1] * 6, [1] * 6), ([1] * 14, [0, 0, 1]), ([1] * 25, [1] * 25)]:
            check_raises(self, TooMany, BOUND, put, Fraction(one), Fraction(other))

    def test_refused(self):
        bad = NO_FRACTIONS + [3, Ratio(3)]
        refused = [("fraction", InvalidFraction, bad), ("other", InvalidFraction, bad)]
        check_refusals(self, put, refused, {"fraction": LETTER, "other": LETTER})


class Slope(Checks):
    def test_drawn(self):
        draw = drawing(77)
        for _ in range(80):
            one = drawn(draw, 7)
            p, q = terms(one)
            top = reference.minus(reference.times(reference.derived(p), q), reference.times(p, reference.derived(q)))
            self.check(slope(one), top, reference.times(q, q))
            self.assertEqual(slope(fraction=one), slope(one))

    def test_numbers_and_moves(self):
        self.assertEqual(slope(Fraction([5])), Fraction([]))
        self.assertEqual(slope(Fraction([])), Fraction([]))
        self.assertEqual(slope(letter()), Fraction([1]))
        self.assertEqual(slope(Fraction([1, 2], [3, 4])), Fraction([2], [9, 24, 16]))

    def test_powers(self):
        for many in range(1, 25):
            self.assertEqual(slope(Fraction([0] * many + [1])), Fraction([0] * (many - 1) + [many]))
            if many < 24:
                self.assertEqual(slope(Fraction([1], [0] * many + [1])), Fraction([-many], [0] * (many + 1) + [1]))

    def test_products_and_quotients(self):
        draw = drawing(78)
        for _ in range(30):
            one, other = drawn(draw, 3), drawn(draw, 3)
            self.assertEqual(slope(one * other), slope(one) * other + one * slope(other))
            self.assertEqual(slope(one + other), slope(one) + slope(other))
            if other.upper():
                self.assertEqual(slope(one.over(other)), (slope(one) * other - one * slope(other)).over(other * other))

    def test_bound(self):
        self.assertEqual(slope(Fraction([1], [1] + [0] * 11 + [1])).degree, 24)
        self.assertEqual(slope(Fraction([1], [0] * 23 + [1])).degree, 24)
        for bottom in ([1] + [0] * 12 + [1], [0] * 24 + [1], [1] * 25):
            check_raises(self, TooMany, BOUND, slope, Fraction([1], bottom))

    def test_refused(self):
        check_refusals(self, slope, [("fraction", InvalidFraction, NO_FRACTIONS + [3, Ratio(3)])], {"fraction": LETTER})


if __name__ == "__main__":
    unittest.main()
