"""[63], [64]: grids, steps, what is made of told fractions."""

import unittest

from helpers import EIGHTH, LETTER, NINTH, NO_FRACTION_LISTS, NO_FRACTIONS, NO_NUMBERS, STRANGE, check_call, check_raises
from helpers import check_refusals, draw_fraction, drawing
from innerfractions.errors import InvalidFraction, InvalidFractions, TooMany
from innerfractions.fractions import Fraction, letter, put
from innerfractions.made import is_finer, is_made, is_made_steps, made_steps
from innerfractions.ones import the_one
from innerfractions.outer import is_inner
from innerfractions.ratios import Ratio
from judged import are_steps_told, has_small_numbers, last_is

SQUARE, CUBE, WAVE = Fraction([0, 0, 1]), Fraction([0, 0, 0, 1]), Fraction([1, 0, 1], [0, 1])
BOTH, NEAR = Fraction([1, 0, 0, 0, 1], [0, 0, 1]), Fraction([-1, 0, 1], [0, 1])
NUMBERS = [Fraction([]), Fraction([5]), Fraction([Ratio(-2, 3)]), Fraction([1, 1], [2, 2])]
X, Y, ONE = [[0], [1]], [[0, 1]], [[1]]
BOUND = {"what": "degree", "limit": 8}


def power(many):
    return Fraction([0] * many + [1])


class Checks(unittest.TestCase):
    def check_made(self, fractions, fraction):
        given = {"fractions": fractions, "fraction": fraction}
        self.assertIs(check_call(self, is_made, given), True)
        steps = check_call(self, made_steps, given)
        self.assertTrue(are_steps_told(steps, len(fractions)))
        self.assertTrue(has_small_numbers(steps))
        self.assertIs(is_made_steps(fractions, fraction, steps), True)
        self.assertIs(is_made_steps(value=tuple(steps), fraction=fraction, fractions=tuple(fractions)), True)
        self.assertTrue(last_is(fractions, steps, fraction))
        other = fraction + 1
        self.assertIs(is_made_steps(fractions, other, steps), False)

    def check_not_made(self, fractions, fraction):
        given = {"fractions": fractions, "fraction": fraction}
        self.assertIs(check_call(self, is_made, given), False)
        self.assertIsNone(check_call(self, made_steps, given))

    def check(self, fractions, fraction):
        if not fraction.is_full or is_inner(fraction, the_one(fractions)):
            self.check_made(fractions, fraction)
        else:
            self.check_not_made(fractions, fraction)


class Made(Checks):
    def test_of_sums_products_and_quotients(self):
        draw = drawing(191)
        for _ in range(40):
            inner = draw_fraction(draw, draw.randint(1, 2), 3)
            one, two = [put(draw_fraction(draw, draw.randint(1, 2), 3), inner) for _ in range(2)]
            told = [one, two]
            for made in (one, two, one + two, one * two, one.over(two), one * 3 - Ratio(1, 2), two * two - one):
                if made.degree <= 8:
                    self.check_made(told, made)

    def test_of_known_inner_ones(self):
        draw = drawing(192)
        for _ in range(50):
            inner = draw_fraction(draw, draw.randint(1, 4), 3)
            most = 8 // inner.degree
            told = [put(draw_fraction(draw, draw.randint(1, most), 3), inner) for _ in range(draw.randint(1, 4))]
            one = the_one(told)
            self.check_made(told, one)
            self.check_made(told, put(draw_fraction(draw, draw.randint(1, 8 // one.degree), 3), one))
            self.check(told, inner)
            self.check(told, draw_fraction(draw, draw.randint(1, 8), 3))

    def test_the_letter(self):
        draw = drawing(193)
        for told in ([SQUARE, CUBE], [WAVE, NEAR], [power(8), power(7)], [power(6), power(4), power(3)], [EIGHTH, power(6), power(4), power(5)],
                     [power(6), Fraction([0] * 6 + [1]) + power(3), SQUARE + LETTER], [LETTER], [CUBE, Fraction([1, 2], [3, 4])]):
            self.check_made(told, letter())
            self.check_made(told, draw_fraction(draw, 8))
        for told in ([SQUARE], [BOTH, NEAR], [power(8), power(6)], [power(8), power(6), power(4), SQUARE], [WAVE]):
            self.check_not_made(told, letter())
            self.check_not_made(told, CUBE)

    def test_of_all_but_of_no_two_with_the_last(self):
        square, sixth, cube = [put(power(many), Fraction([1, 1], [1, -1])) for many in (2, 6, 3)]
        self.check_made([square, sixth, cube], letter())
        self.check_made([square, cube], letter())
        self.check_not_made([square, sixth], letter())
        self.check_not_made([sixth, cube], letter())
        self.check_made([sixth, cube], cube)
        self.check_not_made([sixth, cube], square)

    def test_numbers(self):
        for told in ([SQUARE], [EIGHTH, WAVE], (CUBE, CUBE, CUBE, CUBE)):
            for number in NUMBERS:
                self.check_made(told, number)

    def test_with_great_numbers(self):
        draw = drawing(194)
        for many, fewer, inner in [(4, 4, 2), (2, 2, 4), (3, 2, 2), (5, 4, 1)]:
            inner = Fraction(great(draw, inner), great(draw, inner))
            told = [put(Fraction(great(draw, one), great(draw, one)), inner) for one in (many, fewer)]
            self.check_made(told, inner)
            self.check_made(told, told[1])

    def test_with_the_greatest_numbers(self):
        draw = drawing(198)
        told = [Fraction(great(draw, 8), great(draw, 8)) for _ in range(2)]
        steps = made_steps(told, LETTER)
        self.assertTrue(are_steps_told(steps, 2) and has_small_numbers(steps))
        self.assertIs(is_made_steps(told, LETTER, steps), True)
        self.assertTrue(last_is(told, steps, LETTER))

    def test_four_steps_are_enough(self):
        draw = drawing(195)
        for _ in range(10):
            told = [draw_fraction(draw, draw.randint(4, 8), 3) for _ in range(4)]
            self.assertLessEqual(len(made_steps(told, LETTER)), 4)
        told = [put(power(many), LETTER + many) for many in (8, 4)] + [power(6), power(8)]
        self.check_made(told, LETTER)

    def test_in_any_sequence(self):
        draw = drawing(199)
        for _ in range(6):
            told = [put(power(many), draw_fraction(draw, 1, 3)) for many in (2, 4)] + [draw_fraction(draw, 5, 3), power(8)]
            for others in (told, told[::-1], told[2:] + told[:2], told[1:] + told[:1]):
                self.check_made(others, LETTER)

    def test_bound(self):
        self.check_made([LETTER], EIGHTH)
        for function, more in [(is_made, []), (made_steps, []), (is_made_steps, [None]), (is_made_steps, [[(0, 0, X, ONE)]])]:
            for fraction in (NINTH, power(24)):
                check_raises(self, TooMany, BOUND, function, [SQUARE, CUBE], fraction, *more)
                check_raises(self, InvalidFractions, {"value": None}, function, None, fraction, *more)


class Judged(unittest.TestCase):
    """is_made_steps of whatever value."""

    def judge(self, told, fraction, value, wanted):
        self.assertIs(is_made_steps(told, fraction, value), wanted)
        self.assertIs(is_made_steps(value=value, fractions=told, fraction=fraction), wanted)

    def test_known(self):
        two = [SQUARE, CUBE]
        for fraction, value, wanted in [
            (LETTER, [(1, 0, X, Y)], True), (LETTER, [(0, 1, Y, X)], True), (LETTER, ((1, 0, X, Y),), True), (LETTER, [(0, 1, X, Y)], False),
            (SQUARE, [(0, 1, X, ONE)], True), (CUBE, [(0, 1, Y, ONE)], True), (CUBE, [(0, 1, X, ONE)], False),
            (power(5), [(0, 1, [[0, 0], [0, 1]], ONE)], True), (SQUARE + CUBE, [(0, 1, [[0, 1], [1, 0]], ONE)], True),
            (LETTER, [(1, 0, X, Y), (2, 2, X, ONE)], True), (SQUARE, [(1, 0, X, Y), (2, 2, [[0], [0], [1]], ONE)], True),
            (SQUARE, [(1, 0, X, Y), (2, 2, [[0, 0], [0, 1]], ONE)], True), (Fraction([3]), [(0, 0, [[6]], [[2]])], True),
            (Fraction([]), [(0, 0, [[0]], [[2]])], True), (Fraction([]), [(0, 0, [[1]], [[2]])], False),
            (LETTER, [(1, 0, ((0,), (1,)), ((0, 1),))], True), (LETTER * Ratio(1, 2), [(1, 0, X, [[0, Ratio(2)]])], True),
            (LETTER + 1, [(1, 0, X, Y), (2, 0, [[1], [1]], ONE)], True), (Fraction([1]), [(0, 1, [[0, 0], [0, 1]], [[0, 0], [0, 1]])], True),
        ]:
            self.judge(two, fraction, value, wanted)

    def test_how_many_steps(self):
        steps = [(0, 0, X, ONE)]
        for at in range(1, 7):
            self.judge([WAVE], WAVE, steps, at <= 6)
            steps = steps + [(at, 0, X, ONE)]
        self.assertEqual(len(steps), 7)
        self.judge([WAVE], WAVE, steps, False)
        self.judge([WAVE], WAVE, steps[:6], True)
        self.judge([WAVE], WAVE, [], False)
        self.judge([WAVE], WAVE, (), False)

    def test_positions(self):
        for first, second, wanted in [
            (0, 0, True), (0, 1, True), (1, 1, False), (2, 0, False), (0, 2, False), (0, 10 ** 20, False), (-1, 0, False), (0, -1, False),
            (True, 0, False), (False, 0, False), (0, True, False), (0, False, False), (Ratio(0), 0, False), (0, Ratio(0), False), (0, None, False),
            ("0", 0, False), (0, [0], False), (STRANGE, 0, False),
        ]:
            self.judge([WAVE, NEAR], WAVE, [(first, second, X, ONE)], wanted)
        # A result counts behind the told ones, but not in its own step, nor ahead of it.
        chain = [(0, 1, [[0, 1], [1, 0]], ONE), (2, 1, [[0, -1], [1, 0]], ONE)]
        self.judge([WAVE, NEAR], WAVE, chain, True)
        self.judge([WAVE, NEAR], WAVE, [(3, 1, [[0, -1], [1, 0]], ONE), chain[0]], False)
        self.judge([WAVE, NEAR], WAVE, [(2, 1, [[0, -1], [1, 0]], ONE), chain[0]], False)
        self.judge([WAVE, NEAR], WAVE, [chain[0], (3, 1, [[0, -1], [1, 0]], ONE)], False)

    def test_grids(self):
        nine, ten = [[0] * 9] * 8 + [[1] + [0] * 8], [[0] * 9] * 9 + [[1] + [0] * 8]
        self.judge([LETTER], power(8), [(0, 0, nine, ONE)], True)
        self.judge([LETTER], Fraction([1], [0] * 8 + [1]), [(0, 0, ONE, nine)], True)
        self.judge([LETTER], power(8), [(0, 0, [[0] * 8 + [1]], ONE)], True)
        for grid in (ten, ten[1:] + [[1] * 8], [[0] * 10], [[0] * 9 + [1]], [], [[]], [[], []], [[0], [1, 0]], [[0, 1], [1]], [[1], []],
                     [[0]] * 9 + [[1]], None, True, 1, "1", ["1"], [[None]], [["1"]], [[True]], [[0], [True]], [1], {0: [1]}, STRANGE, LETTER):
            self.judge([LETTER], power(8), [(0, 0, grid, ONE)], False)
            self.judge([LETTER], LETTER, [(0, 0, X, grid)], False)
            # Nothing that is wrong goes by because a later step is right.
            self.judge([LETTER], LETTER, [(0, 0, grid, ONE), (0, 0, X, ONE)], False)
        for number in NO_NUMBERS:
            self.judge([LETTER], LETTER, [(0, 0, [[0], [1], [number]], ONE)], False)
            self.judge([LETTER], LETTER, [(0, 0, X, [[1, number]])], False)

    def test_steps_of_other_kinds(self):
        for value in (None, True, 0, "steps", b"", {}, {0: (0, 0, X, ONE)}, LETTER, STRANGE, [None], [[0, 0, X, ONE]], [(0, 0, X)],
                      [(0, 0, X, ONE, ONE)], (0, 0, X, ONE), [()], ["abcd"], [(0, 0, X, ONE), None], [(0, 0, X, ONE), [0, 0, X, ONE]],
                      [((0, 0), X, ONE)], [STRANGE], [{0: 0, 1: 0, 2: X, 3: ONE}]):
            self.judge([LETTER], LETTER, value, False)
            self.judge([LETTER], Fraction([]), value, False)
        self.judge([LETTER], LETTER, [(0, 0, X, ONE)], True)

    def test_bottom_that_comes_to_nought(self):
        relation = [[0, 0, 1], [0, 0, 0], [0, 0, 0], [-1, 0, 0]]
        two = [SQUARE, CUBE]
        self.judge(two, LETTER, [(0, 1, Y, X)], True)
        for bottom in ([[0]], [[0, Ratio(0)], [0, 0]], relation):
            self.judge(two, LETTER, [(0, 1, Y, bottom)], False)
            self.judge(two, LETTER, [(0, 1, ONE, bottom), (0, 1, Y, X)], False)
        self.judge(two, Fraction([]), [(0, 1, relation, ONE)], True)
        self.judge(two, Fraction([]), [(0, 1, relation, relation)], False)
        self.judge(two, LETTER, [(0, 0, ONE, [[0, 1], [-1, 0]]), (0, 1, Y, X)], False)

    def test_degrees_of_results(self):
        cube = [[0], [0], [0], [1]]
        told = [EIGHTH, LETTER]
        self.judge(told, EIGHTH, [(0, 0, cube, ONE), (2, 0, X, [[0, 0, 1]])], True)
        self.judge(told, LETTER, [(0, 0, cube, ONE), (1, 1, X, ONE)], True)
        # Of the degree 25.
        self.judge(told, LETTER, [(0, 1, cube, Y), (1, 1, X, ONE)], False)
        self.judge(told, LETTER, [(0, 1, ONE, [[0], [0], [0], [1]]), (1, 1, X, ONE)], True)
        self.judge(told, LETTER, [(0, 1, Y, cube), (1, 1, X, ONE)], False)
        self.judge(told, LETTER, [(0, 1, [[0, 0]] * 3 + [[0, 1]], ONE), (1, 1, X, ONE)], True)
        self.judge(told, LETTER, [(0, 1, [[0, 1, 0, 0], [0] * 4, [0] * 4, [1, 0, 0, 0]], ONE), (1, 1, X, ONE)], False)
        self.judge(told, LETTER, [(0, 0, [[0]] * 8 + [[1]], ONE), (1, 1, X, ONE)], False)

    def test_great_degrees_that_cancel(self):
        draw = drawing(196)
        for _ in range(6):
            told = [draw_fraction(draw, 8), draw_fraction(draw, 8)]
            cube, last = [[0], [0], [0], [1]], [[0]] * 8 + [[1]]
            self.judge(told, Fraction([1]), [(0, 0, cube, ONE), (2, 2, last, last)], True)
            self.judge(told, told[0], [(0, 0, cube, ONE), (2, 2, last, [[0]] * 7 + [[1]]), (3, 0, X, [[0, 0, 1]])], True)
            self.judge(told, told[1], [(0, 0, cube, ONE), (2, 2, last, [[0]] * 7 + [[1]]), (3, 0, X, [[0, 0, 1]])], False)
            drawn = [[draw.randint(-9, 9) for _ in range(9)] for _ in range(9)]
            self.judge(told, told[0], [(0, 1, drawn, last), (0, 0, X, ONE)], False)
            self.judge(told, Fraction([Ratio(3, 2)]), [(0, 1, [[3 * part for part in row] for row in drawn], [[2 * part for part in row] for row in drawn])], True)
            moved = [[0] * 9] + drawn[:8]
            self.judge(told, told[0], [(0, 1, moved, drawn[:8])], True)
            self.judge(told, told[0] + 1, [(0, 1, moved, drawn[:8])], False)


class Finer(unittest.TestCase):
    def test_known(self):
        for told, others, wanted in [
            ([SQUARE, CUBE], [power(6), power(8)], True), ([power(6), power(8)], [SQUARE, CUBE], False), ([power(6), power(8)], [SQUARE], True),
            ([WAVE], (BOTH, WAVE), True), ([BOTH], [WAVE], False), ([WAVE, NEAR], [LETTER, EIGHTH], True), ([SQUARE], [power(4), CUBE], False),
            ([LETTER], [LETTER], True), ([SQUARE], [Fraction([1], [3, 0, -2])], True), ((CUBE,), [power(6), CUBE, CUBE, CUBE], True),
        ]:
            self.assertIs(check_call(self, is_finer, {"fractions": told, "others": others}), wanted)

    def test_each_of_the_others(self):
        draw = drawing(197)
        for _ in range(30):
            told = [put(draw_fraction(draw, 2, 3), SQUARE) for _ in range(draw.randint(1, 3))]
            others = [put(draw_fraction(draw, draw.randint(1, 2), 3), draw.choice([SQUARE, LETTER])) for _ in range(draw.randint(1, 4))]
            self.assertIs(is_finer(told, others), all(is_made(told, other) for other in others))


class Refused(unittest.TestCase):
    def test_kinds(self):
        refused = [("fractions", InvalidFractions, NO_FRACTION_LISTS), ("fraction", InvalidFraction, NO_FRACTIONS)]
        for function in (is_made, made_steps):
            check_refusals(self, function, refused, {"fractions": [EIGHTH] * 4, "fraction": EIGHTH})
            check_refusals(self, function, refused, {"fractions": (LETTER,), "fraction": Fraction([])})
        check_refusals(self, is_made_steps, refused, {"fractions": [EIGHTH] * 4, "fraction": EIGHTH, "value": None})
        refused = [("fractions", InvalidFractions, NO_FRACTION_LISTS), ("others", InvalidFractions, NO_FRACTION_LISTS)]
        check_refusals(self, is_finer, refused, {"fractions": [EIGHTH] * 4, "others": (LETTER,)})


def great(draw, degree):
    """A polynomial of the degree with numbers of six digits above and below the stroke."""
    return [Ratio(draw.randint(1, 999999), draw.randint(900000, 999999)) for _ in range(degree + 1)]


if __name__ == "__main__":
    unittest.main()
