"""[85], [86]: double places, the same curve."""

import unittest
from fractions import Fraction as Exact

import plain
from drawn_curves import CUSP, FIFTH, FOURTH, KNOT, KNOWN, LEVEL, LINE, NO_CURVES, RING, SQUARE, TWICE, UPRIGHT, WAVE
from drawn_curves import draw_curve, moved
from helpers import LETTER, NO_MOVES, NO_PLACES, check_call, check_raises, check_refusals, draw_fraction, draw_place
from helpers import drawing, ratios
from innerfractions.curves import Curve
from innerfractions.doubles import double_form, is_other_place, is_same_move, other_place, same_curve
from innerfractions.equations import equation, is_on
from innerfractions.errors import InvalidCurve, NumbersAlone, TooMany
from innerfractions.forms import told_form
from innerfractions.fractions import Fraction, letter, put
from innerfractions.moves import undone
from innerfractions.places import is_place
from innerfractions.ratios import Ratio
from innerfractions.twins import common_part

BOUND = {"what": "degree", "limit": 4}
PLACES = ["beyond", 0, 1, -1, 2, Ratio(1, 2), Ratio(-2, 3)]


def determinant(rows):
    """Reckoned by the first column."""
    if not rows:
        return Exact(1)
    total = Exact(0)
    for at, row in enumerate(rows):
        if row[0]:
            total += (-1) ** at * row[0] * determinant([other[1:] for other in rows[:at] + rows[at + 1:]])
    return total


def less_line(pair, number):
    """[86]: the part of top over bottom at a number, divided by x less it, from the highest power down."""
    top, bottom = [plain.padded(poly, plain.degree(pair)) for poly in pair]
    over, under = [sum(part * number ** at for at, part in enumerate(poly)) for poly in (top, bottom)]
    form = [one * under - two * over for one, two in zip(top, bottom)]
    rest, lead = [], Exact(0)
    for part in reversed(form[1:]):
        lead = lead * number + part
        rest.append(lead)
    return rest


def double_worth(curve, number):
    """What the double form is there, but for one number for all."""
    told = curve.plain()
    first, second = [less_line(plain.terms(one), number) for one in (told.first(), told.second())]
    rows = [[Exact(0)] * at + first + [Exact(0)] * (len(second) - 2 - at) for at in range(len(second) - 1)]
    rows += [[Exact(0)] * at + second + [Exact(0)] * (len(first) - 2 - at) for at in range(len(first) - 1)]
    return determinant(rows)


class Doubles(unittest.TestCase):
    def check(self, curve, wanted=None):
        form = check_call(self, double_form, {"curve": curve})
        told = curve.plain()
        first, second = told.first(), told.second()
        many = 2 * (first.degree - 1) * (second.degree - 1)
        self.assertEqual(len(form), many + 1)
        self.assertEqual(form, told_form(form))
        if wanted is not None:
            self.assertEqual(form, ratios(*wanted))
        for place in PLACES:
            # Its roots are the places at which the common part has the degree 2 or more.
            reached = len(common_part([first, second], place)) > 2
            self.assertEqual(
                plain.often([plain.exact(number) for number in form], plain.spot(place)) > 0, reached, (curve, place),
            )
        # It is the resultant, but for one number.
        pairs = [
            (
                double_worth(curve, Exact(at)),
                sum(plain.exact(number) * Exact(at) ** by for by, number in enumerate(form)),
            ) for at in range(many + 1)
        ]
        one, other = next(pair for pair in pairs if pair[1])
        self.assertTrue(one)
        for wanted_worth, worth in pairs:
            self.assertEqual(worth * one, wanted_worth * other)
        return form

    def test_known(self):
        self.check(KNOT, [-1, 0, 1, 0, 0])
        self.check(CUSP, [0, 0, 1, 0, 0])
        self.check(RING)
        self.check(LINE, [1])
        self.check(TWICE, [1])
        self.check(Curve(LETTER, Fraction([0] * 4 + [1])), [1])
        self.check(Curve(Fraction([1, 0, 0, 0, 1], [1, 0, 1]), Fraction([1], [0, 1])), [1])
        # Both places of the knot's double point, led elsewhere: beyond and 0, or beyond alone.
        self.check(moved(KNOT, Fraction([1, 1], [1, -1])))
        self.assertEqual(plain.noughts(double_form(moved(KNOT, Fraction([1, 1], [1, -1])))), 0)
        self.check(Curve(Fraction([0, 0, 1]), Fraction([0, 1, 0, 1], [1])))
        self.check(FOURTH)

    def test_at_beyond(self):
        # The knot turns back beyond, and comes twice to the point of 1 and -1; one of the three is led to beyond.
        swapped = moved(KNOT, undone(Fraction([1, 1], [1, -1])))
        form = self.check(swapped)
        places = [place for place in PLACES if len(common_part([swapped.first(), swapped.second()], place)) > 2]
        self.assertEqual(len(places), 3)
        self.assertIn("beyond", places)
        self.assertEqual(len(form), 5)
        turned = self.check(moved(CUSP, Fraction([1], [0, 1])))
        self.assertEqual(turned, ratios(0, 0, 1, 0, 0))

    def test_moved(self):
        # With a move put in the double places are led along.
        draw = drawing(351)
        for _ in range(20):
            curve, move = draw_curve(draw, 3), draw_fraction(draw, 1, 3)
            told = curve.plain()
            if told.first().is_full and told.second().is_full:
                self.check(curve)
                self.check(moved(curve, move))

    def test_drawn(self):
        draw = drawing(352)
        for first in range(1, 5):
            for second in range(1, 5):
                curve = Curve(draw_fraction(draw, first, 3), draw_fraction(draw, second, 3))
                if max(curve.plain().first().degree, curve.plain().second().degree) <= 4:
                    self.check(curve)

    def test_passed_several_times(self):
        draw = drawing(353)
        for curve in [KNOT, CUSP, RING, LINE, Curve(WAVE, Fraction([0, 1, 1]))]:
            told, wanted = curve.plain(), double_form(curve)
            self.assertEqual(double_form(told), wanted)
            # A told one stays t, so the plain telling of what is passed twice is the same but for a move.
            for degree in (1, 2):
                self.assertEqual(len(double_form(moved(curve, draw_fraction(draw, degree, 2)))), len(wanted))
            self.assertEqual(double_form(moved(curve, SQUARE)), wanted)

    def test_with_worths_beyond(self):
        # Both places 1 and -1 have the point (beyond, beyond).
        curve = Curve(Fraction([1], [-1, 0, 1]), Fraction([0, 0, 0, 1], [-1, 0, 1]))
        form = self.check(curve)
        self.assertEqual(
            [plain.often([plain.exact(number) for number in form], place) > 0 for place in (Exact(1), Exact(-1))],
            [True, True],
        )


class Same(unittest.TestCase):
    def check(self, curve, other, wanted):
        given = {"curve": curve, "other": other}
        move, place = check_call(self, same_curve, given), check_call(self, other_place, given)
        self.assertIs(move is not None, wanted)
        self.assertIs(place is None, wanted)
        for one in (curve, other):
            told = one.plain()
            if max(told.first().degree, told.second().degree) > 4:
                break
        else:
            self.assertEqual(equation(curve) == equation(other), wanted)
        if wanted:
            self.assertTrue(move.is_move)
            self.assertEqual(moved(curve.plain(), move), other.plain())
            self.judge_move(curve, other, move, True)
            self.assertEqual(same_curve(other, curve), undone(move))
        else:
            self.assertTrue(isinstance(place, Ratio) or place == "beyond")
            point = curve.plain().point(place)
            self.assertNotIn("beyond", point)
            self.assertIs(is_on(other, point), False)
            self.judge_place(curve, other, place, True)
        for one in (letter(), Fraction([1, 1]), Fraction([1], [0, 1])):
            self.judge_move(curve, other, one, move == one)
        for one in PLACES:
            point = curve.plain().point(one)
            self.judge_place(curve, other, one, "beyond" not in point and not is_on(other, point))

    def judge_move(self, curve, other, value, wanted):
        self.assertIs(is_same_move(curve, other, value), wanted)
        self.assertIs(is_same_move(value=value, other=other, curve=curve), wanted)

    def judge_place(self, curve, other, value, wanted):
        self.assertIs(is_other_place(curve, other, value), wanted)
        self.assertIs(is_other_place(value=value, other=other, curve=curve), wanted)

    def test_moved(self):
        draw = drawing(354)
        for curve in KNOWN + [FOURTH, FIFTH] + [draw_curve(draw, 4) for _ in range(10)] + [
            draw_curve(draw, 3, 2) for _ in range(6)
        ]:
            self.check(curve, curve, True)
            self.check(curve, curve.plain(), True)
            told = curve.plain()
            most = 8 // max(told.first().degree, told.second().degree)
            for degree in range(1, min(most, 4) + 1):
                other = moved(told, draw_fraction(draw, degree, 3))
                self.check(curve, other, True)
                self.check(other, curve, True)

    def test_unlike(self):
        draw = drawing(355)
        for curve, other in [
            (KNOT, RING), (KNOT, CUSP), (CUSP, KNOT), (LINE, KNOT), (UPRIGHT, LEVEL), (LEVEL, UPRIGHT), (UPRIGHT, LINE),
            (LINE, UPRIGHT), (TWICE, RING),
            (FOURTH, FIFTH), (FIFTH, FOURTH), (LINE, Curve(LETTER, LETTER * 2 - 1)),
            (UPRIGHT, Curve(Fraction([Ratio(2, 5)]), WAVE)), (KNOT, Curve(KNOT.second(), KNOT.first())),
            (CUSP, Curve(SQUARE, Fraction([0, 0, 0, 2]))), (RING, Curve(RING.first(), RING.second() * 2)),
            (Curve(LETTER, Fraction([4])), Curve(LETTER, Fraction([5]))),
        ]:
            self.check(curve, other, False)
        for _ in range(15):
            curve, other = draw_curve(draw, 3), draw_curve(draw, 3)
            self.check(
                curve, other, curve.plain().point(7) == other.plain().point(7) and equation(curve) == equation(other),
            )

    def test_where_many_points_are_shared(self):
        # At 0, 1, 2 and 3 both have the same points.
        flat = LETTER
        for number in range(1, 4):
            flat = flat * (LETTER - number)
        self.check(Curve(LETTER, flat), Curve(LETTER, Fraction([])), False)
        self.check(Curve(LETTER, Fraction([])), Curve(LETTER, flat), False)
        self.check(Curve(Fraction([1]), LETTER), Curve(Fraction([1], [1]) + flat, LETTER), False)

    def test_one_move_alone(self):
        # The first ones have own moves, of which the second ones let one pass.
        hill = Curve(WAVE, Fraction([0, 1, 0, 1, 2]))
        move = Fraction([1, 2], [3, 1])
        self.assertEqual(same_curve(hill, moved(hill, move)), move)
        self.assertEqual(same_curve(KNOT, Curve(Fraction([0, 2, 1]), Fraction([0, 2, 3, 1]))), Fraction([1, 1]))
        self.assertEqual(same_curve(TWICE, TWICE), letter())

    def test_any_value(self):
        for value in NO_MOVES + [None, True, 1, "beyond", [letter()], KNOT]:
            self.judge_move(KNOT, KNOT, value, False)
        for value in NO_PLACES + [None, True, [1], (1, 2), KNOT]:
            self.judge_place(KNOT, RING, value, False)
        draw = drawing(356)
        for _ in range(20):
            self.judge_place(KNOT, moved(KNOT, LETTER + 1), draw_place(draw), False)

    def test_place_of_the_plain_telling(self):
        # The curve's own place 2 has the point (4, 4), that of its plain telling (2, 2).
        curve, other = Curve(SQUARE, SQUARE), Curve(LETTER, Fraction([4, 0, 0]) + (LETTER - 4) * (LETTER - 3))
        self.judge_place(curve, other, 2, True)
        self.judge_place(curve, other, 4, False)


class Refused(unittest.TestCase):
    def test_kinds(self):
        curve, other = ("curve", InvalidCurve, NO_CURVES), ("other", InvalidCurve, NO_CURVES)
        check_refusals(self, double_form, [curve], {"curve": KNOT})
        for function in (same_curve, other_place):
            check_refusals(self, function, [curve, other], {"curve": FIFTH, "other": UPRIGHT})
        for function in (is_same_move, is_other_place):
            check_refusals(self, function, [curve, other], {"curve": FIFTH, "other": UPRIGHT, "value": None})

    def test_state(self):
        for curve in (UPRIGHT, LEVEL, Curve(Fraction([2]), Fraction([0] * 8 + [1]))):
            check_raises(self, NumbersAlone, {}, double_form, curve)
            check_raises(self, NumbersAlone, {}, double_form, curve=curve)
        for curve in (FIFTH, Curve(SQUARE, FIFTH.first()), Curve(LETTER, FIFTH.first())):
            check_raises(self, TooMany, BOUND, double_form, curve)
        self.assertEqual(double_form(moved(Curve(LETTER, FOURTH.first()), SQUARE)), ratios(1))


if __name__ == "__main__":
    unittest.main()
