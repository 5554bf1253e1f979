"""[75], [76], [77]: groups of moves and the ones of groups."""

import unittest

import plain
from helpers import LETTER, NO_MOVES, STRANGE, check_call, check_raises, check_refusals, draw_fraction, drawing
from innerfractions.classes import class_of, same_class
from innerfractions.errors import InvalidMoves, NotFinite, NotGroup
from innerfractions.fractions import Fraction, letter, put
from innerfractions.groups import grown, is_group, one_of_group
from innerfractions.halves import all_inner
from innerfractions.lattices import joined
from innerfractions.moves import undone
from innerfractions.outer import is_inner
from innerfractions.own import own_moves
from innerfractions.ratios import Ratio
from moving import ENDLESS, FOURTH, GROWING, OTHER_SIGN, OVER, SIXTH, THIRD, closed, led, left_by

NO_MOVE_LISTS = [
    None, True, "t", b"t", LETTER, {}, {0: LETTER}, [], (), [LETTER] * 13, (LETTER,) * 13, [None], [LETTER, None],
    [LETTER, 1], [[LETTER]],
    [LETTER, Fraction([3])], [Fraction([])], [Fraction([0, 0, 1]), LETTER], (LETTER, Ratio(1)), STRANGE, object(),
    Fraction,
] + [[LETTER, value] for value in NO_MOVES]


class Grown(unittest.TestCase):
    def check(self, moves, wanted):
        group = check_call(self, grown, {"moves": moves})
        self.assertIs(type(group), list)
        self.assertEqual(group, sorted(wanted, key=plain.standing))
        self.assertIs(is_group(group), True)
        return group

    def test_known(self):
        draw = drawing(311)
        sizes = set()
        for moves, many in GROWING:
            group = closed(moves)
            self.assertEqual(len(group), many)
            sizes.add(many)
            self.check(moves, group)
            self.check(tuple(moves[::-1]), group)
            self.check(moves + [letter()] + moves, group)
            self.check(group, group)
            self.check([undone(move) for move in moves], group)
            for _ in range(3):
                by = draw_fraction(draw, 1, 7)
                self.check([led(move, by) for move in moves], [led(move, by) for move in group])
        self.assertEqual(sizes, {1, 2, 3, 4, 6, 8, 12})

    def test_examples_of_one(self):
        self.assertEqual(grown([letter()]), [letter()])
        self.assertEqual(grown([THIRD]), [THIRD, Fraction([-1, 1], [0, 1]), letter()])
        self.assertEqual(grown([letter()] * 12), [letter()])

    def test_not_finite(self):
        draw = drawing(312)
        for moves in ENDLESS:
            self.assertIsNone(closed(moves))
            for _ in range(2):
                by = draw_fraction(draw, 1, 7)
                changed = [led(move, by) for move in moves]
                for given in (moves, tuple(moves), changed, changed[::-1], changed + [letter()], changed + changed):
                    check_raises(self, NotFinite, {}, grown, given)
                    check_raises(self, NotFinite, {}, grown, moves=given)

    def test_drawn(self):
        draw = drawing(313)
        for _ in range(40):
            moves = [draw_fraction(draw, 1, 1) for _ in range(draw.randint(1, 2))]
            wanted = closed(moves)
            if wanted is None:
                check_raises(self, NotFinite, {}, grown, moves)
            else:
                self.check(moves, wanted)


class Groups(unittest.TestCase):
    def check(self, moves, wanted):
        for given in (moves, tuple(moves), moves[::-1], moves[1:] + moves[:1]):
            self.assertIs(check_call(self, is_group, {"moves": given}), wanted)
            if not wanted:
                check_raises(self, NotGroup, {}, one_of_group, given)
                check_raises(self, NotGroup, {}, one_of_group, moves=given)

    def test_groups(self):
        for moves, many in GROWING:
            group = closed(moves)
            self.check(group, True)
            for at in range(many):
                left, more = group[:at] + group[at + 1:], group + [group[at]]
                self.check(left or [OVER], left == [letter()])
                if len(more) <= 12:
                    self.check(more, False)
                self.check(group[:at] + [letter() + 1] + group[at + 1:], False)

    def test_known(self):
        for moves, wanted in [
            ([letter()], True), ([letter(), OVER], True), ([letter(), letter()], False), ([OVER], False),
            ([letter(), THIRD], False),
            ([letter(), OTHER_SIGN, OVER], False), ([letter(), letter() + 1], False), ([letter() + 1], False),
            ([OVER, OTHER_SIGN], False),
            ([letter(), FOURTH, undone(FOURTH)], False), ([letter(), put(FOURTH, FOURTH)], True),
            ([letter(), put(SIXTH, SIXTH)], False),
        ]:
            self.check(moves, wanted)


class Ones(unittest.TestCase):
    def check(self, group):
        one = check_call(self, one_of_group, {"moves": group})
        self.assertEqual(one_of_group(tuple(group[::-1])), one)
        self.assertEqual(one.degree, len(group))
        self.assertEqual(class_of(one), one)
        for move in group:
            self.assertEqual(put(one, move), one)
        self.assertIs(same_class(one, left_by(group)), True)
        return one

    def test_known(self):
        draw = drawing(314)
        for moves, many in GROWING:
            for by in [letter(), Fraction([1, 1]), draw_fraction(draw, 1, 6)]:
                group = [led(move, by) for move in closed(moves)]
                one = self.check(group)
                if many <= 8:
                    self.assertEqual(own_moves(one), sorted(group, key=plain.standing))
        self.assertEqual(one_of_group([letter()]), letter())
        self.assertEqual(one_of_group([letter(), OTHER_SIGN]), Fraction([0, 0, 1]))
        self.assertEqual(one_of_group([OVER, letter()]), Fraction([1, 0, 1], [0, 1]))

    def test_where_moves_lead_beyond_to_counts(self):
        # Of the moves of the group one leads beyond to 0, one to 1, one to 2.
        for number in range(4):
            by = Fraction([number, 1])
            self.check([led(move, by) for move in closed([THIRD, OVER])])
            self.check([led(move, by) for move in closed([OVER])])

    def test_within_one_another(self):
        # [77]: of a round fraction the classes inner to it are the ones of the groups within its own moves.
        draw = drawing(315)
        for moves, many in [
            ([FOURTH], 4), ([OTHER_SIGN, OVER], 4), ([THIRD, OVER], 6), ([SIXTH], 6), ([THIRD], 3), ([OVER], 2),
        ]:
            by = draw_fraction(draw, 1, 4) if many < 4 else letter()
            group = [led(move, by) for move in closed(moves)]
            fraction = left_by(group)
            ones = []
            for first in group:
                for second in group:
                    made = one_of_group(grown([first, second]))
                    if made not in ones:
                        ones.append(made)
                    self.assertIs(is_inner(fraction, made), True)
                    self.assertIs(is_inner(made, one_of_group(grown([first]))), True)
            self.assertEqual(sorted(ones, key=plain.standing), all_inner(fraction))

    def test_what_is_not_changed_is_made_of_it(self):
        for moves, many in GROWING[1:6]:
            one = one_of_group(closed(moves))
            made = Fraction([1])
            for move in closed(moves):
                made = made * (move * 3 + 2) if many < 5 else made + move
            if made.is_full:
                self.assertEqual(joined(made, one) if made.degree <= 8 else one, one)


class Refused(unittest.TestCase):
    def test_kinds(self):
        refused = [("moves", InvalidMoves, NO_MOVE_LISTS)]
        for function in (grown, is_group, one_of_group):
            check_refusals(self, function, refused, {"moves": [letter()]})
        check_refusals(self, grown, refused, {"moves": [letter(), OVER] * 6})
        check_refusals(self, is_group, refused, {"moves": (letter(),) * 12})
        check_refusals(self, one_of_group, refused, {"moves": tuple(closed([SIXTH, OVER]))})


if __name__ == "__main__":
    unittest.main()
