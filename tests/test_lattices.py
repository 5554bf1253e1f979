"""[71], [72], [73]: joined, met, chains."""

import unittest

import plain
from helpers import EIGHTH, LETTER, NINTH, NO_FRACTIONS, check_call, check_raises, check_refusals, draw_fraction
from helpers import drawing
from innerfractions.classes import class_of
from innerfractions.errors import InvalidFraction, NotFull, NotInner, TooMany
from innerfractions.fractions import Fraction, letter, put
from innerfractions.halves import all_inner
from innerfractions.lattices import chains, joined, met
from innerfractions.ones import the_one
from innerfractions.outer import is_inner, outer
from innerfractions.own import own_moves
from innerfractions.groups import grown, one_of_group
from moving import GROWING, OTHER_SIGN, OVER, SIXTH, THIRD, closed, left_by

NUMBERS = [Fraction([]), Fraction([5]), Fraction([1, 1], [2, 2])]
WAVE, BOTH = Fraction([1, 0, 1], [0, 1]), Fraction([1, 0, 0, 0, 1], [0, 0, 1])


def power(many):
    return Fraction([0] * many + [1])


class Joined(unittest.TestCase):
    def check(self, fraction, other, wanted=None):
        for given in ({"fraction": fraction, "other": other}, {"fraction": other, "other": fraction}):
            one = check_call(self, joined, given)
            self.assertEqual(one, class_of(one))
            self.assertEqual(one, the_one([fraction, other]))
            self.assertTrue(is_inner(fraction, one) and is_inner(other, one))
            if wanted is not None:
                self.assertEqual(one, wanted)
        return one

    def test_put_together(self):
        draw = drawing(321)
        for _ in range(40):
            inner = draw_fraction(draw, draw.randint(1, 4), 4)
            most = 8 // inner.degree
            first, second = [put(draw_fraction(draw, draw.randint(1, most), 4), inner) for _ in range(2)]
            one = self.check(first, second)
            self.assertTrue(is_inner(one, inner))
            # The outer ones of the one have nothing in common any more.
            self.assertEqual(joined(outer(first, one), outer(second, one)), letter())
            self.check(first, first, class_of(first))
            self.check(first, put(Fraction([1, 2], [3, 1]), first), class_of(first))
            self.check(first, inner, class_of(inner))

    def test_powers(self):
        for many in range(1, 9):
            for other in range(1, 9):
                wanted = max(one for one in range(1, 9) if many % one == 0 and other % one == 0)
                self.check(power(many), power(other), power(wanted))

    def test_t_alone_in_common(self):
        for fraction, other in [
            (power(2), power(2) + LETTER), (WAVE, power(2)), (power(3), put(power(3), LETTER + 1)), (letter(), EIGHTH),
            (OVER, power(6)),
        ]:
            self.check(fraction, other, letter())

    def test_just_at_the_bound(self):
        self.check(EIGHTH, EIGHTH, power(8))
        self.check(EIGHTH, power(6), power(2))


class Met(unittest.TestCase):
    def check(self, fraction, inner, other, wanted=None):
        for given in (
            {"fraction": fraction, "inner": inner, "other": other},
            {"fraction": fraction, "inner": other, "other": inner},
        ):
            one = check_call(self, met, given)
            self.assertEqual(one, class_of(one))
            above = [each for each in all_inner(fraction) if is_inner(each, inner) and is_inner(each, other)]
            self.assertIn(one, above)
            self.assertTrue(all(is_inner(each, one) for each in above))
            self.assertTrue(all(each == one or each.degree > one.degree for each in above))
            if wanted is not None:
                self.assertEqual(one, wanted)

    def test_of_groups(self):
        for moves, many in GROWING:
            if many in (4, 6):
                fraction = left_by(closed(moves))
                ones = all_inner(fraction)
                for inner in ones:
                    for other in ones:
                        # [77]: the least group that holds both groups leaves what is met.
                        group = grown((own_moves(inner) + own_moves(other))[:12])
                        self.assertEqual(met(fraction, put(Fraction([1, 2], [3]), inner), other), one_of_group(group))
                self.check(fraction, ones[1], ones[2])

    def test_powers(self):
        for many in range(1, 7):
            inside = [one for one in range(1, many + 1) if many % one == 0]
            for one in inside:
                for other in inside:
                    wanted = min(each for each in inside if each % one == 0 and each % other == 0)
                    self.check(power(many), power(one), power(other), power(wanted))

    def test_with_t_and_itself(self):
        draw = drawing(322)
        for _ in range(15):
            inner = draw_fraction(draw, draw.randint(1, 3), 4)
            fraction = put(draw_fraction(draw, draw.randint(1, 6 // inner.degree), 4), inner)
            self.check(fraction, letter(), inner, class_of(inner))
            self.check(fraction, letter(), letter(), letter())
            self.check(fraction, fraction, inner, class_of(fraction))
            self.check(fraction, inner, inner, class_of(inner))
            self.check(fraction, put(OVER, inner), inner, class_of(inner))

    def test_known(self):
        self.check(power(6), power(2), power(3), power(6))
        self.check(BOTH, WAVE, power(2), class_of(BOTH))
        self.check(BOTH, WAVE, Fraction([-1, 0, 1], [0, 1]), class_of(BOTH))
        self.check(letter(), OVER, THIRD, letter())

    def test_not_inner(self):
        for fraction, inner, other in [
            (power(6), power(4), power(2)), (power(6), power(2), power(4)), (power(6), WAVE, WAVE),
            (power(2), power(6), power(2)), (letter(), power(2), letter()),
            (power(5), power(2), power(3)), (power(8), power(3), power(2)), (power(8), power(2), power(24)),
            (power(24), WAVE, letter()), (power(6), power(8), letter()),
        ]:
            check_raises(self, NotInner, {}, met, fraction, inner, other)
            check_raises(self, NotInner, {}, met, other=other, inner=inner, fraction=fraction)


class Chains(unittest.TestCase):
    def check(self, fraction, many=None):
        told = check_call(self, chains, {"fraction": fraction})
        self.assertIs(type(told), list)
        ones = all_inner(fraction)
        for chain in told:
            self.assertIs(type(chain), list)
            self.assertEqual((chain[0], chain[-1]), (letter(), class_of(fraction)))
            self.assertTrue(all(one in ones for one in chain))
            for first, last in zip(chain, chain[1:]):
                self.assertTrue(self.is_next(ones, first, last))
        self.assertEqual(told, sorted(told, key=lambda chain: [plain.standing(one) for one in chain]))
        self.assertEqual(len(told), self.count(ones, letter(), class_of(fraction)))
        self.assertEqual(len({repr(chain) for chain in told}), len(told))
        if many is not None:
            self.assertEqual(len(told), many)
        return told

    def is_next(self, ones, first, last):
        if first == last or not is_inner(last, first):
            return False
        return not any(one not in (first, last) and is_inner(one, first) and is_inner(last, one) for one in ones)

    def count(self, ones, first, last):
        """How many ways lead from the one to the other, each to a next one."""
        if first == last:
            return 1
        return sum(self.count(ones, one, last) for one in ones if self.is_next(ones, first, one))

    def test_powers(self):
        for many, wanted in [(1, 1), (2, 1), (3, 1), (4, 1), (5, 1), (6, 2)]:
            self.check(power(many), wanted)
        self.assertEqual(chains(power(4)), [[letter(), power(2), power(4)]])
        self.assertEqual(chains(power(6)), [[letter(), power(2), power(6)], [letter(), power(3), power(6)]])

    def test_moves_and_whole_ones(self):
        draw = drawing(323)
        for _ in range(5):
            self.assertEqual(self.check(draw_fraction(draw, 1, 9)), [[letter()]])
            for degree in (2, 3, 5):
                fraction = draw_fraction(draw, degree, 5)
                self.assertEqual(self.check(fraction), [[letter(), class_of(fraction)]])
        fraction = Fraction([1, 1, 0, 0, 1], [0, 0, 0, 1])
        self.assertEqual(self.check(fraction), [[letter(), class_of(fraction)]])

    def test_round_ones(self):
        for moves, many in [
            ([Fraction([1, 1], [1, -1])], 1), ([OTHER_SIGN, OVER], 3), ([THIRD, OVER], 4), ([SIXTH], 2),
        ]:
            self.check(left_by(closed(moves)), many)

    def test_put_together(self):
        draw = drawing(324)
        for parts in [(2, 2), (3, 2), (2, 3), (1, 4), (2, 1, 2), (3, 1, 2), (2, 1, 3), (6,), (4,), (1, 5)] * 2:
            fraction = letter()
            for degree in parts:
                fraction = put(draw_fraction(draw, degree, 3), fraction)
            self.check(fraction)
        # Of the degree 4 with all three between.
        self.check(BOTH, 3)
        self.check(put(Fraction([1, 2], [3, 4]), BOTH), 3)


class Refused(unittest.TestCase):
    def test_kinds(self):
        fraction, inner, other = [(name, InvalidFraction, NO_FRACTIONS) for name in ("fraction", "inner", "other")]
        check_refusals(self, joined, [fraction, other], {"fraction": EIGHTH, "other": EIGHTH})
        check_refusals(
            self, met, [fraction, inner, other], {"fraction": power(6), "inner": power(2), "other": power(3)},
        )
        check_refusals(self, chains, [fraction], {"fraction": power(6)})

    def test_full(self):
        for number in NUMBERS:
            for other in (number, power(2), power(24)):
                check_raises(self, NotFull, {}, joined, number, other)
                check_raises(self, NotFull, {}, joined, other, number)
                for given in [
                    (number, other, other), (other, number, other), (other, other, number),
                    (power(7), power(2), number),
                ]:
                    check_raises(self, NotFull, {}, met, *given)
            check_raises(self, NotFull, {}, chains, number)
            check_raises(self, InvalidFraction, {"value": None}, met, number, number, None)
            check_raises(self, InvalidFraction, {"value": 1}, joined, number, 1)

    def test_bounds(self):
        bound, less = {"what": "degree", "limit": 8}, {"what": "degree", "limit": 6}
        for fraction in (NINTH, power(24)):
            for other in (letter(), fraction, EIGHTH):
                check_raises(self, TooMany, bound, joined, fraction, other)
                check_raises(self, TooMany, bound, joined, other, fraction)
        for fraction in (power(7), power(8), power(24)):
            check_raises(self, TooMany, less, chains, fraction)
            for inner, other in [(letter(), letter()), (fraction, letter()), (fraction, fraction)]:
                check_raises(self, TooMany, less, met, fraction, inner, other)
        # That both are inner is looked at first.
        check_raises(self, NotInner, {}, met, power(24), power(7), power(2))
        check_raises(self, TooMany, less, met, power(24), power(12), power(8))


if __name__ == "__main__":
    unittest.main()
