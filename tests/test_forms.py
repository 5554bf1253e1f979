"""[7], [41]: forms, their products, what divides them, their common forms, their roots."""

import unittest
from fractions import Fraction as Exact

import plain
import reference
from helpers import NO_FORMS, check_call, check_raises, check_refusals, draw_number, drawing, exact, ratios
from innerfractions.errors import InvalidForm, NotDivided, TooMany
from innerfractions.forms import are_like, common_form, divides, is_form, places_of, product, rest_form, told_form
from innerfractions.fractions import Fraction
from innerfractions.ratios import Ratio

HALF = Ratio(1, 2)
FORMS = [
    [1], (Ratio(-2, 3),), [0, 5], [5, 0], (1, 0, 0), [0, 0, 1], [0, 1, 0], [HALF, -3, 0, 0], [0] * 24 + [7], [7] + [0] * 24,
    [1] * 25, (10 ** 30, Ratio(1, 7)),
]
# The roots of which forms are drawn, as the forms of the degree 1 that have them.
LINES = {"beyond": [1, 0], 0: [0, 1], 1: [-1, 1], -1: [1, 1], 2: [-2, 1], Exact(-1, 3): [1, 3], Exact(5, 2): [-5, 2]}
ROOTLESS = [[1], [1, 0, 1], [1, 1, 1], [-2, 0, 0, 1]]


def numbers(form):
    return [exact(number) for number in form]


def draw_form(draw, most):
    """A form of a degree up to most, often with noughts at its end."""
    while True:
        form = [draw_number(draw) for _ in range(draw.randint(1, most + 1))] + [0] * draw.choice([0, 0, 1, 2])
        if is_form(form):
            return tuple(form) if draw.random() < 0.3 else form


def drawn_product(draw, most):
    """A form that is a product of known ones, and a dict of its roots."""
    form, roots = draw.choice(ROOTLESS), {}
    for _ in range(draw.randint(0, most - len(form) + 1)):
        root = draw.choice(list(LINES))
        form, roots[root] = product(form, LINES[root]), roots.get(root, 0) + 1
    scale = draw.choice([1, -3, Ratio(7, 2)])
    return [scale * number for number in form], roots


class Kinds(unittest.TestCase):
    def test_any_value(self):
        for form in FORMS:
            self.assertIs(is_form(form), True)
            self.assertIs(is_form(value=form), True)
        for value in NO_FORMS:
            self.assertIs(is_form(value), False, value)
        for many in range(25):
            self.assertIs(is_form(Fraction([1], [0] * many + [1])), False)
            self.assertIs(is_form([0] * many), False)
            self.assertIs(is_form([0] * many + [Ratio(1, 3)]), True)
            self.assertIs(is_form([0] * many + [True]), False)

    def test_told(self):
        draw = drawing(121)
        for form in FORMS + [draw_form(draw, 22) for _ in range(80)]:
            made = check_call(self, told_form, {"form": form})
            self.assertIs(type(made), list)
            self.assertTrue(all(isinstance(number, Ratio) for number in made))
            self.assertEqual(made, plain.one(numbers(form)))
            self.assertEqual(told_form(made), made)

    def test_like(self):
        draw = drawing(122)
        for _ in range(80):
            form, other = draw_form(draw, 5), draw_form(draw, 5)
            wanted = plain.one(numbers(form)) == plain.one(numbers(other))
            self.assertIs(check_call(self, are_like, {"form": form, "other": other}), wanted)
            self.assertIs(are_like(form, [number * Ratio(-5, 3) for number in form]), True)
            self.assertIs(are_like(form, tuple(form) + (0,)), False)
            self.assertIs(are_like([0, *form], form), False)
        self.assertIs(are_like([1], [-7]), True)
        self.assertIs(are_like([1], [7, 0]), False)
        self.assertIs(are_like([1, 2], [2, 1]), False)

    def test_refused(self):
        for function in (told_form, places_of):
            check_refusals(self, function, [("form", InvalidForm, NO_FORMS)], {"form": (0, 2, 0)})
        refused = [("form", InvalidForm, NO_FORMS), ("other", InvalidForm, NO_FORMS)]
        for function in (are_like, product, divides, rest_form, common_form):
            check_refusals(self, function, refused, {"form": [1, 0], "other": (0, 1, 0)})


class Products(unittest.TestCase):
    def test_drawn(self):
        draw = drawing(123)
        for _ in range(100):
            form, other = draw_form(draw, 10), draw_form(draw, 9)
            made = check_call(self, product, {"form": form, "other": other})
            self.assertEqual(len(made), len(form) + len(other) - 1)
            wanted = reference.times(reference.of(form), reference.of(other))
            self.assertEqual(made, plain.one(plain.padded(wanted, len(form) + len(other) - 2)))

    def test_noughts_stay(self):
        self.assertEqual(product([1, 0], [2, 0, 0]), ratios(1, 0, 0, 0))
        self.assertEqual(product([0, 4, 0], [0, 1]), ratios(0, 0, 1, 0))
        self.assertEqual(product([3], [5]), ratios(1))

    def test_bound(self):
        for form, other in [([1] * 13, [1] * 13), ([1] + [0] * 24, [5]), ([2], [0] * 24 + [1]), ((1, 0), [1] * 24)]:
            self.assertEqual(len(product(form, other)), 25)
        for form, other in [([1] * 14, [1] * 13), ([1] + [0] * 24, [5, 0]), ((0, 2), [0] * 24 + [1]), ((1, 0), [1] + [0] * 24)]:
            check_raises(self, TooMany, {"what": "degree", "limit": 24}, product, form, other)
            check_raises(self, TooMany, {"what": "degree", "limit": 24}, product, other=form, form=other)
        check_raises(self, InvalidForm, {"value": None}, product, [1] * 25, None)


class Dividing(unittest.TestCase):
    def check(self, form, other):
        one, two = numbers(form), numbers(other)
        wanted = plain.divides(one, two)
        self.assertIs(check_call(self, divides, {"form": form, "other": other}), wanted)
        if wanted:
            rest = check_call(self, rest_form, {"form": form, "other": other})
            self.assertEqual(len(rest), len(other) - len(form) + 1)
            self.assertEqual(product(form, rest), told_form(other))
            self.assertEqual(told_form(rest), rest)
        else:
            check_raises(self, NotDivided, {}, rest_form, form, other)
            check_raises(self, NotDivided, {}, rest_form, form=form, other=other)

    def test_drawn(self):
        draw = drawing(124)
        for _ in range(120):
            form, other = drawn_product(draw, 4)[0], drawn_product(draw, 8)[0]
            self.check(form, other)
            self.check(form, product(form, other))
            self.check(other, form)

    def test_beyond_counts(self):
        for form, other in [
            ([1, 0], [0, 1, 0]), ([1, 0], [0, 0, 1]), ([1, 0, 0], [0, 1, 0]), ([1, 0, 0], [3, 0, 0]), ([1, 1], [1, 0, 0]), ([0, 1], [1, 0]),
            ([1, 0], [0, 1]), ([7], [1, 0]), ([7], [3]), ([1, 0], [7]), ([1] + [0] * 24, [1] + [0] * 24), ([1, 1, 0], [1, 2, 1, 0, 0]),
        ]:
            self.check(form, other)

    def test_known(self):
        self.assertEqual(rest_form([1, 0], [0, 4, 0]), ratios(0, 1))
        self.assertEqual(rest_form([0, 1], [0, 4, 0]), ratios(1, 0))
        self.assertEqual(rest_form([2, 2], [1, 2, 1]), ratios(1, 1))
        check_raises(self, NotDivided, {}, rest_form, [1, 1], [1, 0, 0])
        noughts = [0]
        check_raises(self, InvalidForm, {"value": noughts}, rest_form, [1, 1], noughts)


class Common(unittest.TestCase):
    def test_drawn(self):
        draw = drawing(125)
        for _ in range(120):
            form, other = drawn_product(draw, 9)[0], drawn_product(draw, 9)[0]
            made = check_call(self, common_form, {"form": form, "other": other})
            self.assertEqual(made, plain.one(plain.common(numbers(form), numbers(other))))
            self.assertEqual(made, common_form(other, form))
            self.assertTrue(divides(made, form) and divides(made, other))

    def test_known(self):
        for form, other, wanted in [
            ([0, 1, 0], [0, 0, 1, 0], [0, 1, 0]), ([1, 0, 0], [2, 0, 0, 0], [1, 0, 0]), ([1, 0], [0, 1], [1]), ([5], [1, 0, 0], [1]),
            ([-1, 0, 1], [1, 2, 1, 0], [1, 1]), ([3, 3, 0], [0, 1, 1, 0, 0], [1, 1, 0]), ([1] * 25, [1] * 25, [1] * 25),
        ]:
            self.assertEqual(common_form(form, other), ratios(*wanted))

    def test_greatest(self):
        draw = drawing(126)
        for _ in range(40):
            shared, one, two = [drawn_product(draw, 4)[0] for _ in range(3)]
            made = common_form(product(shared, one), product(shared, two))
            self.assertTrue(divides(shared, made))
            self.assertEqual(common_form(rest_form(made, product(shared, one)), rest_form(made, product(shared, two))), ratios(1))


class Roots(unittest.TestCase):
    def test_drawn(self):
        draw = drawing(127)
        for _ in range(150):
            form, roots = drawn_product(draw, 8)
            made = check_call(self, places_of, {"form": form})
            self.assertEqual(len(made), len(roots))
            self.assertEqual({plain.spot(root): often for root, often in made}, roots)
            told = [root for root, _ in made]
            self.assertTrue(all(isinstance(root, Ratio) or root == "beyond" for root in told))
            self.assertNotIn("beyond", told[:-1])
            inner = [exact(root) for root in told if root != "beyond"]
            self.assertEqual(inner, sorted(inner))

    def test_known(self):
        for form, wanted in [
            ([7], []), ([1, 0, 0], [("beyond", 2)]), ([0, 0, 3], [(Ratio(0), 2)]), ([0, 1, 0], [(Ratio(0), 1), ("beyond", 1)]),
            ([-2, 0, 1], []), ([-2, 0, 1, 0], [("beyond", 1)]), ([-1, 0, 4], [(-HALF, 1), (HALF, 1)]), ([1] + [0] * 24, [("beyond", 24)]),
            ([-10, 1, 0], [(Ratio(10), 1), ("beyond", 1)]), ([90, -19, 1], [(Ratio(9), 1), (Ratio(10), 1)]),
        ]:
            self.assertEqual(places_of(form), wanted)

    def test_roots_that_are_no_places(self):
        form = product(product([1, 0, 1], [-2, 0, 0, 1]), product([0, 1], [-3, 2]))
        self.assertEqual(places_of(form), [(Ratio(0), 1), (Ratio(3, 2), 1)])

    def test_bound(self):
        nine = [-1] + [0] * 7 + [1]
        self.assertEqual(places_of(nine), [(Ratio(-1), 1), (Ratio(1), 1)])
        self.assertEqual(places_of(nine + [0] * 16), [(Ratio(-1), 1), (Ratio(1), 1), ("beyond", 16)])
        for form in ([0] * 9 + [1], [0] * 9 + [1, 0], [1] * 10, (1,) * 10 + (0,) * 15, [1] * 25):
            check_raises(self, TooMany, {"what": "degree", "limit": 8}, places_of, form)
            check_raises(self, TooMany, {"what": "degree", "limit": 8}, places_of, form=form)

    def test_ratios(self):
        form = product([Ratio(-1, 999983), 1], [Ratio(999999, 1000), 1])
        self.assertEqual(places_of(form), [(Ratio(-999999, 1000), 1), (Ratio(1, 999983), 1)])


if __name__ == "__main__":
    unittest.main()
