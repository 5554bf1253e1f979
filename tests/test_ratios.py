"""[2], [3], [11]: NUMBERS and Ratios."""

import unittest
from fractions import Fraction as Exact

from helpers import LETTER, NO_NUMBERS, STRANGE, check_raises, check_refusals, drawing, exact
from innerfractions.errors import DividedByZero, InvalidNumber
from innerfractions.ratios import Ratio, is_number

NO_INTEGERS = NO_NUMBERS + [Ratio(1), Ratio(1, 2)]
RIGHT = {
    "+": lambda first, other: first + other,
    "-": lambda first, other: first - other,
    "*": lambda first, other: first * other,
    "over": lambda first, other: first.over(other),
    "is_below": lambda first, other: first.is_below(other),
    "is_at_most": lambda first, other: first.is_at_most(other),
}


def drawn_pairs(seed, many):
    draw = drawing(seed)
    for _ in range(many):
        size = draw.choice([3, 20, 999999, 10 ** 40])
        yield draw.randint(-size, size), draw.choice([-1, 1]) * draw.randint(1, size)


class Made(unittest.TestCase):
    def test_lowest_terms(self):
        for top, bottom in [(4, 6), (-4, 6), (4, -6), (-4, -6), (0, 5), (0, -5), (7, 1), (7, -1), (6, 3), (1, 9)]:
            made, wanted = Ratio(top, bottom), Exact(top, bottom)
            self.assertEqual((made.top, made.bottom), (wanted.numerator, wanted.denominator))

    def test_drawn(self):
        for top, bottom in drawn_pairs(1, 300):
            made, wanted = Ratio(top, bottom), Exact(top, bottom)
            self.assertEqual((made.top, made.bottom), (wanted.numerator, wanted.denominator))

    def test_default_and_names(self):
        self.assertEqual((Ratio(5).top, Ratio(5).bottom), (5, 1))
        self.assertEqual(Ratio(top=5, bottom=10), Ratio(1, 2))
        self.assertEqual(Ratio(bottom=-1, top=5), Ratio(-5))

    def test_sign_and_whole(self):
        for top, bottom, sign, whole in [(3, 2, 1, False), (3, -2, -1, False), (0, 7, 0, True), (8, -4, -1, True), (9, 3, 1, True)]:
            made = Ratio(top, bottom)
            self.assertEqual(made.sign, sign)
            self.assertIs(type(made.sign), int)
            self.assertIs(made.is_whole, whole)
            self.assertIs(type(made.top), int)
            self.assertIs(type(made.bottom), int)

    def test_refused(self):
        for value in NO_INTEGERS:
            check_raises(self, InvalidNumber, {"value": value}, Ratio, value)
            check_raises(self, InvalidNumber, {"value": value}, Ratio, top=value)
            check_raises(self, InvalidNumber, {"value": value}, Ratio, 1, value)
            check_raises(self, InvalidNumber, {"value": value}, Ratio, 1, bottom=value)
            check_raises(self, InvalidNumber, {"value": value}, Ratio, value, 0)
            check_raises(self, InvalidNumber, {"value": value}, Ratio, value, None)

    def test_bottom_nought(self):
        check_raises(self, InvalidNumber, {"value": 0}, Ratio, 1, 0)
        check_raises(self, InvalidNumber, {"value": 0}, Ratio, 0, 0)

    def test_never_changes(self):
        made = Ratio(6, 4)
        for name in ("top", "bottom", "sign", "is_whole"):
            with self.assertRaises(AttributeError):
                setattr(made, name, 1)


class Reckoned(unittest.TestCase):
    def check(self, made, wanted):
        self.assertIs(type(made), Ratio)
        self.assertEqual((made.top, made.bottom), (wanted.numerator, wanted.denominator))

    def test_ratios(self):
        pairs = list(drawn_pairs(2, 200))
        for (top, bottom), (up, down) in zip(pairs, reversed(pairs)):
            one, other, first, second = Ratio(top, bottom), Ratio(up, down), Exact(top, bottom), Exact(up, down)
            self.check(one + other, first + second)
            self.check(one - other, first - second)
            self.check(one * other, first * second)
            self.check(-one, -first)
            self.check(one.size(), abs(first))
            if second:
                self.check(one.over(other), first / second)
            self.assertIs(one.is_below(other), first < second)
            self.assertIs(one.is_at_most(other), first <= second)

    def test_integers_on_either_side(self):
        for (top, bottom), number in zip(drawn_pairs(3, 60), list(range(-29, 30)) + [10 ** 40]):
            one, first = Ratio(top, bottom), Exact(top, bottom)
            self.check(one + number, first + number)
            self.check(number + one, number + first)
            self.check(one - number, first - number)
            self.check(number - one, number - first)
            self.check(one * number, first * number)
            self.check(number * one, number * first)
            if number:
                self.check(one.over(number), first / number)
            self.assertIs(one.is_below(number), first < number)
            self.assertIs(one.is_at_most(number), first <= number)

    def test_at_the_same_worth(self):
        half = Ratio(1, 2)
        self.assertIs(half.is_below(Ratio(2, 4)), False)
        self.assertIs(half.is_at_most(Ratio(2, 4)), True)
        self.assertIs(Ratio(3).is_below(3), False)
        self.assertIs(Ratio(3).is_at_most(3), True)

    def test_by_name(self):
        self.assertEqual(Ratio(1).over(other=2), Ratio(1, 2))
        self.assertIs(Ratio(1).is_below(other=2), True)
        self.assertIs(Ratio(1).is_at_most(other=0), False)

    def test_refused(self):
        for act in RIGHT.values():
            check_refusals(self, act, [("other", InvalidNumber, NO_NUMBERS)], {"first": Ratio(1, 2), "other": 3})

    def test_divided_by_zero(self):
        for number in (0, Ratio(0), Ratio(0, -7)):
            check_raises(self, DividedByZero, {}, Ratio(1).over, number)
            check_raises(self, DividedByZero, {}, Ratio(0).over, number)

    def test_arguments_stay(self):
        one, other = Ratio(3, 4), Ratio(-5, 6)
        for act in RIGHT.values():
            act(one, other)
        self.assertEqual([str(one), str(other)], ["3/4", "-5/6"])

    def test_very_great(self):
        great = 10 ** 1500
        self.check(Ratio(great, great + 1) - Ratio(great - 1, great), Exact(1, great * (great + 1)))
        self.assertIs(Ratio(great, great + 1).is_below(1), True)
        self.assertEqual(len(str(Ratio(great))), 1501)


class Equal(unittest.TestCase):
    def test_ratios(self):
        self.assertTrue(Ratio(2, 4) == Ratio(1, 2))
        self.assertFalse(Ratio(2, 4) != Ratio(1, 2))
        self.assertFalse(Ratio(1, 2) == Ratio(-1, 2))
        self.assertFalse(Ratio(1, 2) == Ratio(1, 3))
        self.assertFalse(Ratio(1, 2) == Ratio(3, 2))

    def test_never_with_others(self):
        for value in (3, True, "3", None, [3], (3,), Exact(3), LETTER, object()):
            self.assertFalse(Ratio(3) == value)
            self.assertFalse(value == Ratio(3))
            self.assertTrue(Ratio(3) != value)
            self.assertTrue(value != Ratio(3))
        self.assertFalse(Ratio(1) == True)  # noqa: E712
        self.assertFalse(Ratio(0) == False)  # noqa: E712


class Texts(unittest.TestCase):
    def test_str(self):
        for top, bottom, text in [(3, 2, "3/2"), (-3, 2, "-3/2"), (3, -1, "-3"), (0, 5, "0"), (4, 2, "2"), (1, 10, "1/10")]:
            self.assertEqual(str(Ratio(top, bottom)), text)

    def test_repr(self):
        for top, bottom, text in [(3, 2, "Ratio(3, 2)"), (3, -6, "Ratio(-1, 2)"), (0, 5, "Ratio(0, 1)"), (4, 1, "Ratio(4, 1)")]:
            self.assertEqual(repr(Ratio(top, bottom)), text)


class Totals(unittest.TestCase):
    def test_lists_and_tuples(self):
        self.assertEqual(Ratio.total([1, Ratio(1, 2), Ratio(-1, 3)]), Ratio(7, 6))
        self.assertEqual(Ratio.total((1, 2, 3)), Ratio(6))
        self.assertEqual(Ratio.total(numbers=[Ratio(1, 6)] * 6), Ratio(1))
        self.assertEqual(Ratio.total([]), Ratio(0))
        self.assertEqual(Ratio.total(()), Ratio(0))

    def test_drawn(self):
        numbers = [Ratio(top, bottom) for top, bottom in drawn_pairs(4, 60)]
        self.assertEqual(exact(Ratio.total(numbers)), sum(exact(number) for number in numbers))

    def test_no_list(self):
        for value in [None, True, 3, Ratio(3), "12", b"12", {}, {1: 2}, LETTER, STRANGE, {1, 2}]:
            check_raises(self, InvalidNumber, {"value": value}, Ratio.total, value)

    def test_first_that_is_no_number(self):
        for value in NO_NUMBERS:
            check_raises(self, InvalidNumber, {"value": value}, Ratio.total, [1, Ratio(1, 2), value, None, 3])
            check_raises(self, InvalidNumber, {"value": value}, Ratio.total, (value,))


class Numbers(unittest.TestCase):
    def test_numbers(self):
        for value in (0, 1, -5, 10 ** 40, Ratio(0), Ratio(5), Ratio(-1, 2)):
            self.assertIs(is_number(value), True)
            self.assertIs(is_number(value=value), True)

    def test_none(self):
        for value in NO_NUMBERS + [Exact(1, 2)]:
            self.assertIs(is_number(value), False)


if __name__ == "__main__":
    unittest.main()
