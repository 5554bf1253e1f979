"""[91]: sorts and written forms."""

import unittest
from fractions import Fraction as Exact

from helpers import LETTER, NO_FORMS, NO_FRACTIONS, NO_PLACES, NO_POLYS, STRANGE, check_call, check_raises
from helpers import draw_fraction, draw_number, draw_place
from helpers import draw_poly, drawing, exact
from innerfractions.errors import InvalidSort, InvalidValue
from innerfractions.fractions import Fraction
from innerfractions.ratios import Ratio
from innerfractions.readers import read
from innerfractions.texts import is_of_sort, sorts, written

SORTS = ["place", "poly", "fraction", "form", "grid", "steps", "numbers"]
NO_SORTS = [
    None, True, 0, "", "Place", "place ", " place", "places", "top", "row", "step", "claim", b"place", ["place"],
    ("place",), {}, STRANGE, object(), str,
]
STEP = (1, 0, [[0], [1]], [[0, 1]])
NO_GRIDS = [
    None, True, 1, "1", b"1", {}, {0: [1]}, [], (), [[]], [[], []], [[1], [1, 2]], [[1, 2], [1]], [1], [[True]],
    [[1], None], [[None]], [["1"]], [[1], "1"], [[0] * 10],
    [[0]] * 10, ([0] * 10,), ([0],) * 10, [[[1]]], [LETTER], LETTER, Ratio(1), STRANGE, object(), [STRANGE], [{0: 1}],
    [b"1"],
]
NO_STEPS = [
    None, True, 1, "steps", {}, [], (), STEP, [None], [STEP, None], [list(STEP)], [STEP] * 7, (STEP,) * 7, [STEP[:3]],
    [STEP + (0,)], [(4, 0, [[0]], [[1]])], [(0, 4, [[0]], [[1]])],
    [STEP, (5, 0, [[0]], [[1]])], [STEP, (0, 5, [[0]], [[1]])], [STEP] * 5 + [(9, 0, [[0]], [[1]])],
    [(-1, 0, [[0]], [[1]])], [(True, 0, [[0]], [[1]])], [(0, False, [[0]], [[1]])],
    [(Ratio(1), 0, [[0]], [[1]])], [("0", 0, [[0]], [[1]])], [(0, None, [[0]], [[1]])], [[STEP]], LETTER, STRANGE,
    object(), {0: STEP},
] + [[(0, 0, grid, [[1]])] for grid in NO_GRIDS] + [[(0, 0, [[1]], grid)] for grid in NO_GRIDS]
NO_NUMBERS = [
    None, True, 1, Ratio(1), "12", b"12", {}, {0: 1}, [], (), [True], [1, False], [1, None], ["1"], [[1]], [1] * 41,
    (Ratio(1),) * 41, [LETTER], [1, "beyond"], LETTER, STRANGE, object(),
]
# Of each sort values with their written forms.
KNOWN = [
    ("place", "beyond", "place beyond\n"), ("place", 0, "place 0\n"), ("place", -7, "place -7\n"),
    ("place", Ratio(6, -4), "place -3/2\n"), ("place", Ratio(8, 4), "place 2\n"),
    ("place", Ratio(-5), "place -5\n"), ("place", Ratio(999999, 1000), "place 999999/1000\n"),
    ("poly", [], "poly\n"), ("poly", [0, Ratio(0)], "poly\n"), ("poly", [1, Ratio(-3, 2), 0], "poly 1 -3/2\n"),
    ("poly", (0, 0, 4), "poly 0 0 4\n"), ("poly", [0] * 24 + [1], "poly" + " 0" * 24 + " 1\n"),
    ("fraction", Fraction([]), "top\nbottom 1\n"),
    ("fraction", Fraction([0, 2], [1, 0, 2]), "top 0 1\nbottom 1/2 0 1\n"),
    ("fraction", Fraction([-1, 0, 1], [1, 1]), "top -1 1\nbottom 1\n"),
    ("fraction", Fraction([3], [-6]), "top -1/2\nbottom 1\n"),
    ("fraction", Fraction([0] * 24 + [1]), "top" + " 0" * 24 + " 1\nbottom 1\n"),
    ("form", [0, 2, 0], "form 0 1 0\n"), ("form", [5], "form 1\n"),
    ("form", (Ratio(1, 2), Ratio(-3, 4)), "form -2/3 1\n"), ("form", [7] + [0] * 24, "form 1" + " 0" * 24 + "\n"),
    ("form", [0, 0, -3], "form 0 0 1\n"),
    ("grid", [[0]], "grid\nrow 0\n"), ("grid", ([1, Ratio(2, 4)], (0, -3)), "grid\nrow 1 1/2\nrow 0 -3\n"),
    ("grid", [[0] * 9] * 9, "grid\n" + ("row" + " 0" * 9 + "\n") * 9),
    ("steps", [STEP], "steps\nstep 1 0\nover 0\nover 1\nunder 0 1\n"),
    ("steps", ((3, 3, ((Ratio(1, 2),),), [[0, 0]]),), "steps\nstep 3 3\nover 1/2\nunder 0 0\n"),
    ("steps", [STEP, (4, 0, [[1]], [[2]])], "steps\nstep 1 0\nover 0\nover 1\nunder 0 1\nstep 4 0\nover 1\nunder 2\n"),
    (
        "steps", [(at + 3, at + 3, [[1, 2], [3, 4]], [[5]]) for at in range(6)],
        "steps\n" + "".join(f"step {at + 3} {at + 3}\nover 1 2\nover 3 4\nunder 5\n" for at in range(6)),
    ),
    ("numbers", [0], "numbers 0\n"), ("numbers", (1, Ratio(-1, 3), 0, 0), "numbers 1 -1/3 0 0\n"),
    ("numbers", [Ratio(4, 2)] * 40, "numbers" + " 2" * 40 + "\n"),
]


def draw_value(draw, sort):
    """A value of the sort."""
    def grid():
        wide = draw.randint(1, 4)
        rows = [[draw_number(draw) for _ in range(wide)] for _ in range(draw.randint(1, 4))]
        return rows if draw.random() < 0.7 else tuple(tuple(row) for row in rows)

    if sort == "place":
        return draw_place(draw)
    if sort == "poly":
        return draw_poly(draw, 8)
    if sort == "fraction":
        return draw_fraction(draw, draw.randint(1, 6)) if draw.random() < 0.8 else Fraction([draw_number(draw)])
    if sort == "form":
        return [draw_number(draw) for _ in range(draw.randint(0, 6))] + [draw.randint(1, 5)] + [0] * draw.randint(0, 3)
    if sort == "grid":
        return grid()
    if sort == "steps":
        return [(draw.randrange(at + 4), draw.randrange(at + 4), grid(), grid()) for at in range(draw.randint(1, 6))]
    return [draw_number(draw) for _ in range(draw.randint(1, 12))]


def as_told(sort, value):
    """What is read of the written form: all numbers Ratios, all told, lists."""
    def numbers(row):
        return [Ratio(exact(number).numerator, exact(number).denominator) for number in row]

    if sort == "place":
        return value if value == "beyond" else numbers([value])[0]
    if sort == "poly":
        told = numbers(value)
        while told and told[-1].sign == 0:
            told.pop()
        return told
    if sort == "form":
        last = [exact(number) for number in value if exact(number)][-1]
        return numbers(
            [Ratio((exact(number) / last).numerator, (exact(number) / last).denominator) for number in value]
        )
    if sort == "grid":
        return [numbers(row) for row in value]
    if sort == "steps":
        return [
            (first, second, [numbers(row) for row in top], [numbers(row) for row in bottom]) for first, second, top,
            bottom in value
        ]
    return value if sort == "fraction" else numbers(value)


class Texts(unittest.TestCase):
    def check(self, sort, value, wanted=None):
        self.assertIs(check_call(self, is_of_sort, {"sort": sort, "value": value}), True)
        text = check_call(self, written, {"sort": sort, "value": value})
        self.assertIs(type(text), str)
        if wanted is not None:
            self.assertEqual(text, wanted)
        self.assertTrue(text.endswith("\n"))
        self.assertNotIn("  ", text)
        self.assertEqual(check_call(self, read, {"text": text}), (sort, as_told(sort, value)))
        self.assertEqual(written(sort, read(text)[1]), text)
        return text

    def test_sorts(self):
        self.assertEqual(check_call(self, sorts, {}), SORTS)

    def test_known(self):
        for sort, value, wanted in KNOWN:
            self.check(sort, value, wanted)
        self.assertEqual({sort for sort, _, _ in KNOWN}, set(SORTS))

    def test_drawn(self):
        draw = drawing(401)
        for sort in SORTS * 25:
            self.check(sort, draw_value(draw, sort))

    def test_single(self):
        # Numbers count by their worth, polynomials, fractions, forms and places as they are told.
        for sort, value, other in [
            ("place", 2, Ratio(4, 2)), ("poly", [1, 2, 0], (Ratio(1), Ratio(2))),
            ("form", [1, 2, 0], [Ratio(1, 3), Ratio(2, 3), 0]), ("grid", [[1, 2]], ((Ratio(1), Ratio(2)),)),
            ("numbers", [3], (Ratio(3),)), ("steps", [STEP], ((1, 0, ((Ratio(0),), [1]), [[0, Ratio(1)]]),)),
            ("fraction", Fraction([2], [0, 2]), Fraction([1, 1], [0, 1, 1])),
        ]:
            self.assertEqual(written(sort, value), written(sort, other))
        for sort, value, other in [
            ("form", [1, 2, 0], [1, 2]), ("grid", [[1, 0]], [[1]]), ("numbers", [1, 0], [1]),
            ("grid", [[1], [0]], [[1, 0]]),
        ]:
            self.assertNotEqual(written(sort, value), written(sort, other))

    def test_great_ones(self):
        number = Ratio(10 ** 200 + 1, 10 ** 199 + 7)
        self.check("numbers", [number], f"numbers {number}\n")
        self.check("place", -number)
        self.assertEqual(exact(read(written("place", number))[1]), Exact(10 ** 200 + 1, 10 ** 199 + 7))


class Judged(unittest.TestCase):
    def test_values_that_are_none(self):
        for sort, values in [
            ("place", NO_PLACES), ("poly", NO_POLYS), ("fraction", NO_FRACTIONS + [1, Ratio(1)]), ("form", NO_FORMS),
            ("grid", NO_GRIDS), ("steps", NO_STEPS), ("numbers", NO_NUMBERS),
        ]:
            for value in values:
                self.assertIs(is_of_sort(sort, value), False, (sort, value))
                self.assertIs(is_of_sort(value=value, sort=sort), False)
                check_raises(self, InvalidValue, {"value": value}, written, sort, value)
                check_raises(self, InvalidValue, {"value": value}, written, value=value, sort=sort)

    def test_sorts_that_are_none(self):
        for sort in NO_SORTS:
            for value in (0, None, [1], LETTER, STRANGE):
                for function in (is_of_sort, written):
                    check_raises(self, InvalidSort, {"value": sort}, function, sort, value)
                    check_raises(self, InvalidSort, {"value": sort}, function, value=value, sort=sort)

    def test_one_value_of_several_sorts(self):
        self.assertEqual([sort for sort in SORTS if is_of_sort(sort, [1, 2])], ["poly", "form", "numbers"])
        self.assertEqual([sort for sort in SORTS if is_of_sort(sort, [0])], ["poly", "numbers"])
        self.assertEqual([sort for sort in SORTS if is_of_sort(sort, [0] * 26)], ["numbers"])
        self.assertEqual([sort for sort in SORTS if is_of_sort(sort, Ratio(1, 2))], ["place"])
        self.assertEqual([sort for sort in SORTS if is_of_sort(sort, LETTER)], ["fraction"])
        self.assertEqual([sort for sort in SORTS if is_of_sort(sort, [[1]])], ["grid"])


if __name__ == "__main__":
    unittest.main()
