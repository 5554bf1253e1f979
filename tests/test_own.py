"""[74]: own moves, and moves inside fractions."""

import unittest

import plain
from helpers import EIGHTH, LETTER, NINTH, NO_FRACTIONS, NO_MOVES, check_call, check_raises, check_refusals
from helpers import draw_fraction, drawing
from innerfractions.errors import InvalidFraction, NotFull, TooMany
from innerfractions.fractions import Fraction, letter, put
from innerfractions.moves import undone
from innerfractions.own import inside_move, is_own_move, is_round, own_moves
from innerfractions.ratios import Ratio
from moving import GROWING, OTHER_SIGN, OVER, THIRD, closed, led, left_by, moves_by_places

NUMBERS = [Fraction([]), Fraction([5]), Fraction([1, 1], [2, 2])]
BOUND = {"what": "degree", "limit": 8}


def power(many):
    return Fraction([0] * many + [1])


class Checks(unittest.TestCase):
    def check(self, fraction, wanted=None):
        """The own moves are a sorted group, t among them, each leaves the fraction; there are no others."""
        moves = check_call(self, own_moves, {"fraction": fraction})
        self.assertIs(type(moves), list)
        self.assertIn(letter(), moves)
        self.assertEqual(moves, sorted(moves, key=plain.standing))
        self.assertEqual(len({repr(move) for move in moves}), len(moves))
        for move in moves:
            self.assertTrue(move.is_move)
            self.assertEqual(put(fraction, move), fraction)
            self.assertIs(check_call(self, is_own_move, {"fraction": fraction, "value": move}), True)
            self.assertTrue(all(put(move, other) in moves for other in moves))
            self.assertIs(
                is_own_move(fraction, put(move, Fraction([1, 3], [0, 7]))),
                put(move, Fraction([1, 3], [0, 7])) in moves,
            )
        self.assertEqual(
            moves, sorted(moves_by_places(fraction, fraction) if wanted is None else wanted, key=plain.standing),
        )
        self.assertIs(check_call(self, is_round, {"fraction": fraction}), len(moves) == fraction.degree)
        return moves


class Own(Checks):
    def test_powers(self):
        for many in range(1, 9):
            wanted = [OTHER_SIGN, letter()] if many % 2 == 0 else [letter()]
            self.check(power(many), wanted)
            self.check(put(Fraction([1, 2], [3, 4]), power(many)), wanted)
            self.assertIs(is_round(power(many)), many <= 2)
            self.check(Fraction([1], [0] * many + [1]), wanted)

    def test_left_by_groups(self):
        draw = drawing(301)
        seen = set()
        for moves, many in GROWING:
            if many <= 8:
                group = closed(moves)
                for by in [letter(), Fraction([1, 2]), draw_fraction(draw, 1, 4), draw_fraction(draw, 1, 9)]:
                    changed = [led(move, by) for move in group]
                    fraction = left_by(changed)
                    self.assertEqual(fraction.degree, many)
                    self.check(fraction, changed)
                    self.assertIs(is_round(fraction), True)
                    lead = draw_fraction(draw, 1, 5)
                    self.check(put(lead, fraction), changed)
                    # With an outer one the moves stay.
                    if many <= 4:
                        self.assertTrue(
                            all(move in self.check(put(Fraction([3, 1, 2], [1, 5]), fraction)) for move in changed)
                        )
                seen.add(many)
        self.assertEqual(seen, {1, 2, 3, 4, 6, 8})

    def test_in_a_changed_letter(self):
        draw = drawing(302)
        for moves, many in GROWING[1:5]:
            fraction, by = left_by(closed(moves)), draw_fraction(draw, 1, 5)
            self.check(put(fraction, by), [put(put(undone(by), move), by) for move in closed(moves)])

    def test_drawn(self):
        draw = drawing(303)
        for degree in list(range(1, 9)) * 4:
            self.check(draw_fraction(draw, degree, 4))
        for _ in range(20):
            self.check(put(draw_fraction(draw, draw.randint(1, 4), 3), draw_fraction(draw, 2, 3)))

    def test_known(self):
        hill = Fraction([1, 0, 1], [0, 1])
        self.assertEqual(own_moves(hill), [letter(), OVER])
        self.check(Fraction([0, 1, 1]), [Fraction([-1, -1]), letter()])
        self.check(put(power(2), hill), [OTHER_SIGN, letter(), Fraction([-1], [0, 1]), OVER])
        # Of t and its moves t alone: each is round.
        for fraction in (letter(), OVER, THIRD, Fraction([3, 4], [5, 6])):
            self.check(fraction, [letter()])
            self.assertIs(is_round(fraction), True)
        # t alone, of a degree above 1.
        for fraction in (power(3), power(5), power(7), Fraction([0, 1, 0, 1]), Fraction([1, 1, 0, 0, 1], [0, 0, 0, 1])):
            self.assertEqual(self.check(fraction), [letter()])
            self.assertIs(is_round(fraction), False)

    def test_where_the_first_places_are_not_plain(self):
        # The worths at 0, 1, 2 and 3 are taken twice, or beyond, or taken beyond as well.
        for number in range(4):
            shifted = Fraction([-number, 1])
            for fraction in (
                put(power(4), shifted), put(Fraction([1], [0, 0, 1]), shifted),
                put(Fraction([1, 0, 1], [0, 1]), shifted),
            ):
                self.check(fraction)
        hard = Fraction([1])
        for number in range(4):
            hard = hard * Fraction([-number, 1]) * Fraction([number, 1])
        self.assertIn(OTHER_SIGN, self.check(hard))
        self.assertIn(OTHER_SIGN, self.check(put(Fraction([1], [0, 1]), hard)))

    def test_great_numbers(self):
        by = Fraction([Ratio(999999, 7), Ratio(-123456, 654321)], [Ratio(1, 999983), 3])
        self.check(
            put(left_by(closed([THIRD, OVER])), by), [put(put(undone(by), move), by) for move in closed([THIRD, OVER])],
        )


class Judged(unittest.TestCase):
    def test_any_value(self):
        hill = Fraction([1, 0, 1], [0, 1])
        for value in NO_MOVES + [
            None, True, 1, Ratio(1), "t", [letter()], (OVER,), [0, 1], power(2), Fraction([3]), hill,
        ]:
            self.assertIs(is_own_move(hill, value), False)
            self.assertIs(is_own_move(value=value, fraction=letter()), False)
        for move, wanted in [
            (letter(), True), (OVER, True), (OTHER_SIGN, False), (THIRD, False), (Fraction([1, 1]), False),
        ]:
            self.assertIs(is_own_move(hill, move), wanted)


class Inside(unittest.TestCase):
    def check(self, fraction, other, wanted):
        move = check_call(self, inside_move, {"fraction": fraction, "other": other})
        self.assertIs(move is not None, wanted)
        self.assertIs(bool(moves_by_places(fraction, other)), wanted)
        if move is not None:
            self.assertTrue(move.is_move)
            self.assertEqual(put(fraction, move), other)

    def test_put_in(self):
        draw = drawing(304)
        for moves, many in GROWING:
            if many <= 8:
                fraction, by = left_by(closed(moves)), draw_fraction(draw, 1, 5)
                self.check(fraction, put(fraction, by), True)
                self.check(put(fraction, by), fraction, True)
                self.check(fraction, fraction, True)
        for degree in list(range(1, 9)) * 3:
            fraction, by = draw_fraction(draw, degree, 3), draw_fraction(draw, 1, 3)
            self.check(fraction, put(fraction, by), True)
            self.check(put(fraction, by), fraction, True)
            if degree <= 4:
                more = put(fraction, power(2))
                self.check(more, put(more, by), True)
                self.check(put(more, by), more, True)

    def test_no_move(self):
        draw = drawing(305)
        hill = Fraction([1, 0, 1], [0, 1])
        for fraction, other in [
            (hill, power(2)), (power(2), power(2) * 3), (power(3), power(3) + 1), (power(2), hill),
            (power(4), put(power(2), power(2) + 1)),
        ]:
            self.check(fraction, other, False)
        self.check(power(3), power(3) * 8, True)
        self.check(power(2), power(2) * 3 * 12, True)
        for _ in range(20):
            fraction, other = draw_fraction(draw, 3, 4), draw_fraction(draw, 3, 4)
            self.check(fraction, other, bool(moves_by_places(fraction, other)))
        for _ in range(10):
            fraction, other = draw_fraction(draw, 2, 4), draw_fraction(draw, 2, 4)
            self.check(fraction, other, bool(moves_by_places(fraction, other)))

    def test_unlike_degrees(self):
        for fraction, other in [
            (power(2), power(3)), (letter(), power(2)), (power(2), letter()), (power(8), power(7)),
            (power(4), power(2)),
        ]:
            self.check(fraction, other, False)

    def test_moves(self):
        draw = drawing(306)
        for _ in range(10):
            fraction, other = draw_fraction(draw, 1, 9), draw_fraction(draw, 1, 9)
            self.assertEqual(inside_move(fraction, other), put(undone(fraction), other))


class Refused(unittest.TestCase):
    def test_kinds(self):
        refused = [("fraction", InvalidFraction, NO_FRACTIONS)]
        for function in (own_moves, is_round):
            check_refusals(self, function, refused, {"fraction": EIGHTH})
        check_refusals(self, is_own_move, refused, {"fraction": EIGHTH, "value": None})
        check_refusals(
            self, inside_move, refused + [("other", InvalidFraction, NO_FRACTIONS)],
            {"fraction": EIGHTH, "other": LETTER},
        )

    def test_state(self):
        for function, more in [(own_moves, []), (is_round, []), (is_own_move, [None]), (is_own_move, [letter()])]:
            for number in NUMBERS:
                check_raises(self, NotFull, {}, function, number, *more)
            for fraction in (NINTH, power(24)):
                check_raises(self, TooMany, BOUND, function, fraction, *more)
            function(EIGHTH, *more)
        for number in NUMBERS:
            for other in (NINTH, power(2), number):
                check_raises(self, NotFull, {}, inside_move, number, other)
                check_raises(self, NotFull, {}, inside_move, other, number)
            check_raises(self, InvalidFraction, {"value": None}, inside_move, number, None)
        for other in (NINTH, power(2), EIGHTH):
            check_raises(self, TooMany, BOUND, inside_move, NINTH, other)
            check_raises(self, TooMany, BOUND, inside_move, other, NINTH)
        self.assertEqual(put(EIGHTH, inside_move(EIGHTH, EIGHTH)), EIGHTH)


if __name__ == "__main__":
    unittest.main()
