"""[4], [34], [56], [57]: all inner ones, whole and halved fractions."""

import itertools
import unittest

import plain
import reference
from helpers import LETTER, NO_FRACTIONS, STRANGE, check_call, check_raises, check_refusals, draw_fraction, drawing, exact
from innerfractions.classes import class_of
from innerfractions.dividers import dividers
from innerfractions.errors import InvalidFraction, InvalidMany, NotFull, TooMany
from innerfractions.fractions import Fraction, letter, put
from innerfractions.halves import all_inner, inner_ones, is_whole_fraction
from innerfractions.outer import is_inner
from innerfractions.ratios import Ratio

SQUARE, CUBE, WAVE = Fraction([0, 0, 1]), Fraction([0, 0, 0, 1]), Fraction([1, 0, 1], [0, 1])
BOTH = Fraction([1, 0, 0, 0, 1], [0, 0, 1])
NUMBERS = [Fraction([]), Fraction([5]), Fraction([1, 1], [2, 2])]
NO_MANY = [None, True, False, 0, -1, 9, 10 ** 20, "1", b"1", Ratio(1), Ratio(2), [1], (1,), {}, LETTER, STRANGE, object()]
SIXTH, SEVENTH, EIGHTH = [Fraction([1], [0] * many + [1]) for many in (6, 7, 8)]
# What is changed by none of the six moves of t, 1 / t, 1 - t and those made of them.
SIX = Fraction([1, -3, 6, -7, 6, -3, 1], [0, 0, 1, -2, 1])
# What is changed by none of the moves t, -t, 1 / t, -1 / t.
FOUR = Fraction([1, 0, 0, 0, 1], [0, 0, 1])
# What is changed by none of the powers of a move of the order 4, of the order 6.
TURNED = [
    Fraction([0, 0, 0, 0, 1], [1]), Fraction([0, 0, 0, 0, 0, 0, 1], [1]), Fraction([1, 0, 0, 0, 0, 0, 1], [0, 0, 0, 1]),
    Fraction([1, 0, 0, 1], [0, 1, 1]), put(SQUARE, Fraction([1, 0, 0, 1], [0, 1, 1])),
]
BOUND = {"what": "degree", "limit": 6}


def sought(fraction, many):
    """[56], reckoned by dividers at other places than the program takes: the told ones, sorted."""
    pair, plain_ones, number = plain.terms(fraction), [], -1
    while len(plain_ones) < 2:
        form = plain.part(pair, exact(number))
        unlike = not plain_ones or plain.worth(pair, exact(number)) != plain.worth(pair, plain_ones[0][0])
        whole = form[-1] != 0 and len(reference.common(form, reference.derived(form))) == 1
        if unlike and whole:
            plain_ones.append((exact(number), [plain.ratio(part) for part in form]))
        number -= 1
    (here, first), (there, second) = plain_ones
    ups = [one for one in dividers(first, many) if reference.worth(reference.of(one), here) == 0]
    downs = [one for one in dividers(second, many) if reference.worth(reference.of(one), there) == 0]
    found = []
    for up, down in itertools.product(ups, downs):
        one = class_of(Fraction(up, down))
        if one not in found and is_inner(fraction, one):
            found.append(one)
    return sorted(found, key=plain.standing)


class Inner(unittest.TestCase):
    def check(self, fraction, wanted=None):
        """Each told one is inner and told; all of them, sorted, each once; in agreement with one another."""
        made = check_call(self, all_inner, {"fraction": fraction})
        self.assertIs(type(made), list)
        for one in made:
            self.assertIs(type(one), Fraction)
            self.assertTrue(is_inner(fraction, one))
            self.assertEqual(class_of(one), one)
        self.assertEqual(made, sorted(made, key=plain.standing))
        self.assertTrue(all(one not in made[:at] for at, one in enumerate(made)))
        self.assertEqual(made[0], letter())
        self.assertEqual(made[-1], class_of(fraction))
        for many in range(1, 9):
            alone = inner_ones(fraction, many)
            self.assertEqual(alone, [one for one in made if one.degree == many])
            if 1 < many < fraction.degree:
                self.assertEqual(alone, sought(fraction, many))
        whole = fraction.degree > 1 and len(made) == 2
        self.assertIs(check_call(self, is_whole_fraction, {"fraction": fraction}), whole)
        if wanted is not None:
            self.assertEqual([one.degree for one in made], wanted)
        return made

    def test_by_place_and_by_name(self):
        for fraction in (BOTH, SIXTH, SEVENTH, LETTER):
            for many in (1, fraction.degree):
                check_call(self, inner_ones, {"fraction": fraction, "many": many})
        self.assertEqual(check_call(self, inner_ones, {"fraction": SIXTH, "many": 2}), [SQUARE])

    def test_put_together(self):
        draw = drawing(171)
        for many, fewer in [(2, 2), (2, 3), (3, 2)] * 8:
            one, other = draw_fraction(draw, many, 4), draw_fraction(draw, fewer, 4)
            self.assertIn(class_of(other), self.check(put(one, other)))

    def test_of_three(self):
        # Of a fraction of the degree 6 more than one class of each degree may be inner.
        draw = drawing(172)
        for _ in range(3):
            move, lead = draw_fraction(draw, 1, 3), draw_fraction(draw, 1, 3)
            for fraction, wanted in [
                (SIX, [1, 2, 2, 2, 3, 6]), (FOUR, [1, 2, 2, 2, 4]), (TURNED[0], [1, 2, 4]), (TURNED[1], [1, 2, 3, 6]),
                (TURNED[2], None),
            ]:
                self.check(put(lead, put(fraction, move)), wanted)

    def test_powers(self):
        for many in range(1, 7):
            power = Fraction([0] * many + [1])
            made = self.check(power)
            self.assertEqual(made, [Fraction([0] * fewer + [1]) for fewer in range(1, many + 1) if many % fewer == 0])

    def test_known(self):
        self.assertEqual(self.check(BOTH), [LETTER, Fraction([-1, 0, 1], [0, 1]), SQUARE, WAVE, BOTH])
        for fraction in TURNED:
            self.check(fraction)
        self.check(put(CUBE, LETTER + 1), [1, 3])
        self.check(Fraction([0, -3, 0, 1]), [1, 3])
        self.check(Fraction([0, 0, 9, 0, -6, 0, 1]), [1, 2, 3, 6])

    def test_with_none(self):
        draw = drawing(173)
        for _ in range(10):
            for many in (4, 6):
                self.check(draw_fraction(draw, many))
        self.check(Fraction([0, 1, 0, 0, 0, 0, 1]), [1, 6])
        self.check(Fraction([0, 1, 0, 0, 1]), [1, 4])

    def test_moves(self):
        draw = drawing(174)
        for _ in range(10):
            self.assertEqual(self.check(draw_fraction(draw, 1)), [letter()])

    def test_primes_are_whole(self):
        draw = drawing(175)
        for many in (2, 3, 5):
            for _ in range(5):
                self.check(draw_fraction(draw, many), [1, many])

    def test_many_rational_roots(self):
        top = bottom = LETTER
        for number in range(1, 6):
            top, bottom = top * (LETTER - number), bottom * (LETTER + number)
        self.check(top.over(put(bottom, LETTER + 11)))
        squares = (LETTER * LETTER - 1) * (LETTER * LETTER - 4) * (LETTER * LETTER - 9)
        self.assertIn(SQUARE, self.check(squares.over(LETTER * LETTER - 25)))
        self.assertIn(WAVE, self.check(put((LETTER - 1) * (LETTER - 2) * (LETTER + 5), WAVE)))

    def test_with_great_numbers(self):
        draw = drawing(176)
        for many, fewer in [(2, 2), (2, 3), (3, 2)]:
            one, other = [
                Fraction([Ratio(draw.randint(-999999, 999999), draw.randint(1, 999999)) for _ in range(degree)] + [1], [Ratio(5, 7), 2])
                for degree in (many, fewer)
            ]
            self.assertIn(class_of(other), all_inner(put(one, other)))

    def test_sorted(self):
        made = inner_ones(BOTH, 2)
        self.assertEqual([[str(number) for number in one.upper()] for one in made], [["-1", "0", "1"], ["0", "0", "1"], ["1", "0", "1"]])
        shifted = inner_ones(put(BOTH, LETTER * 7), 2)
        self.assertEqual(shifted, sorted(shifted, key=plain.standing))
        self.assertEqual(shifted[0].upper()[0], Ratio(-1, 49))


class Bounds(unittest.TestCase):
    def test_all(self):
        self.assertEqual(len(all_inner(SIXTH)), 4)
        self.assertIs(is_whole_fraction(SIXTH), False)
        for function in (all_inner, is_whole_fraction):
            for fraction in (SEVENTH, EIGHTH, Fraction([0] * 24 + [1])):
                check_raises(self, TooMany, BOUND, function, fraction)
                check_raises(self, TooMany, BOUND, function, fraction=fraction)

    def test_of_one_degree(self):
        for fraction in (SEVENTH, EIGHTH, Fraction([0] * 24 + [1])):
            self.assertEqual(inner_ones(fraction, 1), [letter()])
            for many in range(2, 9):
                if many == fraction.degree:
                    self.assertEqual(inner_ones(fraction, many), [class_of(fraction)])
                else:
                    check_raises(self, TooMany, BOUND, inner_ones, fraction, many)
                    check_raises(self, TooMany, BOUND, inner_ones, many=many, fraction=fraction)
            check_raises(self, InvalidMany, {"value": 9}, inner_ones, fraction, 9)
        self.assertEqual(inner_ones(SIXTH, 3), [CUBE])
        for many in (4, 5, 7, 8):
            self.assertEqual(inner_ones(SIXTH, many), [])

    def test_refused(self):
        for function in (all_inner, is_whole_fraction):
            check_refusals(self, function, [("fraction", InvalidFraction, NO_FRACTIONS)], {"fraction": SIXTH})
        refused = [("fraction", InvalidFraction, NO_FRACTIONS), ("many", InvalidMany, NO_MANY)]
        for many in (1, 8):
            check_refusals(self, inner_ones, refused, {"fraction": EIGHTH, "many": many})

    def test_not_full(self):
        for number in NUMBERS:
            check_raises(self, NotFull, {}, all_inner, number)
            check_raises(self, NotFull, {}, is_whole_fraction, number)
            for many in (1, 2, 8):
                check_raises(self, NotFull, {}, inner_ones, number, many)
            check_raises(self, InvalidMany, {"value": 0}, inner_ones, number, 0)


if __name__ == "__main__":
    unittest.main()
