"""[4], [82], [83], [84]: equations, points on curves, the letter back."""

import unittest
from fractions import Fraction as Exact

import plain
from drawn_curves import CUSP, FIFTH, FOURTH, KNOT, KNOWN, LEVEL, LINE, NO_CURVES, NO_POINTS, RING, SQUARE, TWICE
from drawn_curves import UPRIGHT, WAVE, draw_curve, moved
from helpers import LETTER, STRANGE, check_call, check_raises, check_refusals, draw_fraction, draw_number, drawing
from helpers import exact, ratios
from innerfractions.curves import Curve
from innerfractions.equations import equation, is_letter_back, is_on, letter_back, places_at
from innerfractions.errors import InvalidCurve, InvalidPoint, TooMany
from innerfractions.forms import is_form, told_form
from innerfractions.fractions import Fraction, letter, put
from innerfractions.ratios import Ratio
from judged import grid_worth, is_grid_told

BOUND = {"what": "degree", "limit": 4}


def numbered_points(curve, many):
    """So many tuples (number, x, y) of the plain telling at which both are numbers."""
    told, found, number = curve.plain(), [], Exact(-7, 2)
    while len(found) < many:
        point = told.point(plain.told(number))
        if "beyond" not in point:
            found.append((number, exact(point[0]), exact(point[1])))
        number += 1
    return found


class Equations(unittest.TestCase):
    def check(self, curve):
        """It is told, of the right size, and 0 at more points than a sum of such a size that is not nought can be."""
        grid = check_call(self, equation, {"curve": curve})
        high, wide = curve.plain().second().degree, curve.plain().first().degree
        self.assertIs(type(grid), list)
        self.assertTrue(all(type(row) is list for row in grid))
        self.assertEqual([len(row) for row in grid], [wide + 1] * (high + 1))
        flat = [number for row in grid for number in row]
        self.assertTrue(all(isinstance(number, Ratio) for number in flat))
        self.assertEqual([number for number in flat if number.sign != 0][-1], Ratio(1))
        for _, x, y in numbered_points(curve, 2 * high * wide + 2):
            self.assertEqual(grid_worth(grid, x, y), 0)
        self.assertTrue(any(number.sign for number in grid[-1]))
        self.assertTrue(any(row[-1].sign for row in grid))
        return grid

    def test_known(self):
        for curve, wanted in [
            (LINE, [[-1, 1], [-2, 0]]), (CUSP, [[0, 0, -1], [0] * 3, [0] * 3, [1, 0, 0]]),
            (RING, [[-1, 0, 1], [0] * 3, [1, 0, 0]]),
            (KNOT, [[0, 0, -1], [0] * 3, [1, 0, 0], [1, 0, 0]]), (UPRIGHT, [[Ratio(-2, 3)], [1]]), (LEVEL, [[0, 1]]),
            (Curve(LETTER, Fraction([4])), [[-4, 1]]), (Curve(Fraction([-1]), WAVE), [[1], [1]]),
            (TWICE, [[-2, 0, -1], [1, 0, 0]]),
            (Curve(LETTER, Fraction([1], [0, 1])), [[-1, 0], [0, 1]]),
        ]:
            grid = self.check(curve)
            flat = [exact(number) for row in wanted for number in row]
            head = [number for number in flat if number][-1]
            self.assertEqual(
                [exact(number) for row in grid for number in row], [number / head for number in flat], curve,
            )

    def test_drawn(self):
        draw = drawing(341)
        for inner in (1, 1, 1, 2, 2):
            for _ in range(14):
                self.check(draw_curve(draw, 4, inner))
        for inner in (3, 4):
            for _ in range(6):
                self.check(draw_curve(draw, 2, inner))
        for curve in KNOWN + [FOURTH]:
            self.check(curve)

    def test_passed_several_times(self):
        draw = drawing(342)
        for curve in KNOWN + [draw_curve(draw, 3) for _ in range(10)]:
            told, wanted = curve.plain(), equation(curve)
            self.assertEqual(equation(told), wanted)
            for degree in range(1, 8 // max(told.first().degree, told.second().degree) + 1):
                self.assertEqual(equation(moved(told, draw_fraction(draw, degree, 3))), wanted)

    def test_great_numbers(self):
        draw = drawing(343)
        for degree in (1, 2, 4):
            parts = [
                [
                    Ratio(draw.randint(-999999, 999999), draw.randint(1, 999999)) for _ in range(degree + 1)
                ] for _ in range(4)
            ]
            self.check(Curve(Fraction(parts[0], parts[1]), Fraction(parts[2], parts[3])))


class Points(unittest.TestCase):
    def check(self, curve, point, wanted=None):
        given = {"curve": curve, "point": point}
        form, on = check_call(self, places_at, given), check_call(self, is_on, given)
        self.assertIs(type(on), bool)
        self.assertEqual(on, form is not None)
        told, reached = curve.plain(), []
        for fraction, number in zip((told.first(), told.second()), point):
            if fraction.is_full:
                reached.append(plain.fibre(plain.terms(fraction), exact(number)))
            elif exact(fraction.upper()[0] if fraction.upper() else 0) != exact(number):
                self.assertIs(on, False)
                return None
        common = reached[0] if len(reached) == 1 else plain.common(*reached)
        self.assertEqual(form, plain.one(common) if len(common) > 1 else None)
        if max(told.first().degree, told.second().degree) <= 4:
            # One polynomial: 0 just at the points of the curve.
            self.assertEqual(on, grid_worth(equation(curve), exact(point[0]), exact(point[1])) == 0)
        if form is not None:
            self.assertTrue(is_form(form))
            self.assertEqual(form, told_form(form))
        if wanted is not None:
            self.assertEqual(form, ratios(*wanted))
        return form

    def test_at_places(self):
        draw = drawing(344)
        for curve in KNOWN + [FOURTH, FIFTH] + [
            draw_curve(draw, draw.choice([2, 4, 8]), 1) for _ in range(15)
        ] + [draw_curve(draw, 4, 2) for _ in range(6)]:
            for place in ("beyond", 0, 1, -1, Ratio(1, 2), draw_number(draw)):
                point = curve.point(place)
                if "beyond" not in point:
                    self.assertIsNotNone(self.check(curve, point))
                    for other in [(point[0] + 1, point[1]), (point[0], point[1] + Ratio(1, 7)), (point[1], point[0])]:
                        self.check(curve, other)
            for _ in range(4):
                self.check(curve, (draw_number(draw), draw_number(draw)))

    def test_places_that_are_no_fractions(self):
        # At the roots of t t - 2 the first is 2, and the second, t to the 4 less t t t + 2 t, is 4.
        curve = Curve(SQUARE, Fraction([0, 2, 0, -1, 1]))
        self.check(curve, (2, 4), [-2, 0, 1])
        self.check(Curve(WAVE, Fraction([2, 1, 2, 1], [0, 0, 1])), (0, 0), [1, 0, 1])
        self.check(Curve(Fraction([1, 1, 1]), Fraction([-1, 0, 0, 1])), (0, 0), [1, 1, 1])
        self.check(Curve(SQUARE, Fraction([3])), (5, 3), [-5, 1])
        self.check(Curve(Fraction([3]), Fraction([-2, 0, 1])), (3, 0), [-2, 1])

    def test_double_points_and_cusps(self):
        self.check(KNOT, (0, 0), [-1, 0, 1])
        self.check(CUSP, (0, 0), [0, 0, 1])
        self.check(Curve(Fraction([1], [0, 0, 1]), Fraction([1], [0, 0, 0, 1])), (0, 0), [1, 0, 0])
        self.check(RING, (-1, 0), [1, 0])
        self.check(RING, (Ratio(3, 5), Ratio(4, 5)), [Ratio(-1, 2), 1])
        self.check(TWICE, (2, 0), [0, 1])
        self.check(UPRIGHT, (Ratio(2, 3), 5), [-5, 1])
        self.check(LEVEL, (5, 0), [-5, 1])

    def test_beside(self):
        for curve, point in [
            (RING, (1, 1)), (KNOT, (0, 1)), (CUSP, (1, 2)), (UPRIGHT, (Ratio(2, 4), 5)), (UPRIGHT, (0, 0)),
            (LEVEL, (0, 1)), (LINE, (0, 0)), (TWICE, (0, 0)),
            (Curve(LETTER, Fraction([4])), (4, 5)), (Curve(Fraction([-1]), LETTER), (1, 0)),
        ]:
            self.assertIsNone(self.check(curve, point))
            self.assertIs(is_on(curve, point), False)

    def test_numbers_by_their_worth(self):
        for point in [(0, 0), (Ratio(0), 0), (Ratio(0, 5), Ratio(0))]:
            self.assertEqual(places_at(KNOT, point), [Ratio(-1), Ratio(0), Ratio(1)])
            self.assertIs(is_on(KNOT, point), True)


def tells_letter(curve, value):
    """Whether top divided by bottom comes to the letter, at more places than unlike ones can agree at."""
    told, met, number, noughts = curve.plain(), 0, Exact(-7, 2), 0
    while met < 140:
        point = told.point(plain.told(number))
        number += 1
        if "beyond" in point:
            continue
        x, y = exact(point[0]), exact(point[1])
        below = grid_worth(value[1], x, y)
        noughts += below == 0
        if noughts > 140:
            return False
        if below != 0:
            if grid_worth(value[0], x, y) != below * (number - 1):
                return False
            met += 1
    return True


class Back(unittest.TestCase):
    def check(self, curve):
        made = check_call(self, letter_back, {"curve": curve})
        self.assertIs(type(made), tuple)
        self.assertEqual(len(made), 2)
        self.assertTrue(all(is_grid_told(grid) for grid in made))
        for grid in made:
            for row in grid:
                self.assertTrue(all(isinstance(number, Ratio) for number in row))
                self.assertTrue(all(abs(number.top) < 10 ** 2000 and number.bottom < 10 ** 2000 for number in row))
        self.assertTrue(tells_letter(curve, made))
        self.judge(curve, made, True)
        for value in self.changed(made):
            self.judge(curve, value, tells_letter(curve, value))
        return made

    def judge(self, curve, value, wanted):
        self.assertIs(is_letter_back(curve, value), wanted)
        self.assertIs(is_letter_back(value=value, curve=curve), wanted)

    def changed(self, made):
        """The grids as tuples, times a number, exchanged, with a number changed, with noughts behind."""
        top, bottom = made
        plus = [[number + (1 if at == by == 0 else 0) for by, number in enumerate(row)] for at, row in enumerate(top)]
        yield tuple(tuple(row) for row in top), tuple(tuple(row) for row in bottom)
        yield tuple([[number * Ratio(3, 7) for number in row] for row in grid] for grid in made)
        yield bottom, top
        yield plus, bottom
        yield top, plus
        yield top, [[0]]
        yield [row + [0] for row in top] + [[0] * (len(top[0]) + 1)], bottom
        yield top, top

    def test_known(self):
        for curve in KNOWN + [FOURTH]:
            self.check(curve)

    def test_drawn(self):
        draw = drawing(345)
        for inner in (1, 1, 2):
            for _ in range(12):
                self.check(draw_curve(draw, 4, inner))
        for inner in (3, 4):
            for _ in range(4):
                self.check(draw_curve(draw, 2, inner))

    def test_great_numbers(self):
        draw = drawing(346)
        parts = [[Ratio(draw.randint(-999999, 999999), draw.randint(1, 999999)) for _ in range(5)] for _ in range(4)]
        curve = Curve(Fraction(parts[0], parts[1]), Fraction(parts[2], parts[3]))
        self.assertIs(is_letter_back(curve, letter_back(curve)), True)
        inner = Fraction([Ratio(999999, 7), -2, Ratio(123456, 99991)], [1, Ratio(13, 999998), 5])
        curve = moved(curve, inner)
        made = letter_back(curve)
        self.assertIs(is_letter_back(curve, made), True)
        for number in [number for grid in made for row in grid for number in row]:
            self.assertTrue(abs(number.top) < 10 ** 2000 and number.bottom < 10 ** 2000)

    def test_judged(self):
        for value, wanted in [
            (([[0, 1]], [[0], [1]]), True), ((([0, 1],), ((0,), (1,))), True),
            (([[0, Ratio(2, 3)]], ([0], [Ratio(2, 3)])), True), (([[0, 1]], [[1]]), False),
            # The equation, added anywhere, changes nothing; a bottom that comes to 0 is none.
            (([[0, 1, -1], [0] * 3, [1, 0, 0], [1, 0, 0]], [[0], [1]]), True),
            (([[0, 1]], [[0, 0, -1], [0] * 3, [1, 0, 0], [1, 0, 0]]), False),
            (([[0, 0, -1], [0] * 3, [1, 0, 0], [1, 0, 0]], [[0, 0, -1], [0] * 3, [1, 0, 0], [1, 0, 0]]), False),
            (([[0]], [[0]]), False), (([[0]], [[1]]), False),
            # x (x + 1) divided by y, which is x t.
            (([[0], [1], [1]], [[0, 1]]), True),
            (([[0] * 9] * 8 + [[0] * 8 + [1]], [[0] * 9] * 8 + [[0] * 8 + [1]]), False),
        ]:
            self.judge(KNOT, value, wanted)
        self.judge(UPRIGHT, ([[0, 1]], [[1]]), True)
        self.judge(UPRIGHT, ([[0, 1]], [[0], [Ratio(3, 2)]]), True)
        self.judge(UPRIGHT, ([[0, 1]], [[Ratio(-2, 3)], [1]]), False)
        self.judge(LEVEL, ([[0], [1]], [[1, 77]]), True)

    def test_other_kinds(self):
        good = ([[0, 1]], [[0], [1]])
        for value in (
            None, True, 0, "grid", b"", {}, [], (), list(good), (good[0],), good + ([[1]],), (good[0], None),
            (None, good[1]), (good,), ([], [[1]]), ([[]], [[1]]),
            ([[0, 1]], [[0], [1, 2]]), ([[0, 1]], [0, 1]), ([[0, True]], [[0], [1]]), ([[0, "1"]], [[0], [1]]),
            ([[0, 1]], "01"), ([[0] * 10], [[1]]), ([[0]] * 10, [[1]]),
            STRANGE, object(), (STRANGE, STRANGE), LETTER, (LETTER, LETTER), KNOT, {0: good[0], 1: good[1]},
        ):
            self.judge(KNOT, value, False)


class Refused(unittest.TestCase):
    def test_kinds(self):
        curve, point = ("curve", InvalidCurve, NO_CURVES), ("point", InvalidPoint, NO_POINTS)
        for function in (equation, letter_back):
            check_refusals(self, function, [curve], {"curve": KNOT})
        check_refusals(self, is_letter_back, [curve], {"curve": KNOT, "value": None})
        for function in (is_on, places_at):
            check_refusals(self, function, [curve, point], {"curve": FIFTH, "point": (0, Ratio(1, 2))})

    def test_bound(self):
        for function, more in [(equation, []), (letter_back, []), (is_letter_back, [None])]:
            for curve in (
                FIFTH, Curve(SQUARE, FIFTH.first()), Curve(LETTER, Fraction([1, 1], [0] * 8 + [1])),
                Curve(Fraction([0] * 8 + [1]), Fraction([1, 1])),
            ):
                check_raises(self, TooMany, BOUND, function, curve, *more)
            # The plain telling counts.
            function(FOURTH, *more)
            function(moved(FOURTH, SQUARE), *more)
            function(Curve(Fraction([0] * 8 + [1]), Fraction([0] * 8 + [3])), *more)
        self.assertIs(is_on(FIFTH, (32, 4)), True)


if __name__ == "__main__":
    unittest.main()
