"""What several test files share: values of no kind, and how refusals are looked at."""

import copy
import random
from fractions import Fraction as Exact

from innerfractions.fractions import Fraction
from innerfractions.polys import told
from innerfractions.ratios import Ratio


class Strange:
    """An object that equals everything and has a length."""

    __hash__ = None

    def __eq__(self, other):
        return True

    def __len__(self):
        return 3


STRANGE = Strange()
LETTER = Fraction([0, 1])

# Of each kind some values that are none of it.
NO_NUMBERS = [True, False, None, "1", "", b"1", [1], (1,), [], {}, {1: 1}, LETTER, Ratio, STRANGE, object()]
NO_POLYS = [
    None, True, False, 1, 0, Ratio(1), "12", "", b"12", b"", {}, {0: 1}, [True], [1, False], (1, None), ["1"], [[1]],
    [(1,)], [1, b"1"], [LETTER], LETTER, [1] * 26, [0] * 26, (0,) * 26, Ratio, STRANGE, object(),
]
NO_FRACTIONS = [None, True, False, "t", b"t", [1], (1,), [0, 1], {}, object(), STRANGE, Fraction]
NO_PRIMES = [None, True, False, 0, 1, 2, -3, 4, 9, 15, 49, 57, 60, 61, 67, "3", b"3", [3], (3,), Ratio(3), STRANGE]
NO_ROWS = [
    None, True, 1, Ratio(1), "12", b"12", {}, {0: [1]}, [1], [[]], [(), ()], [[1], [1, 2]], [[1, 2], [1]], [[True]],
    [[1], None], [[1], "1"], [[1, None]], [[1], [False]], [["1"]], [[[1]]], [{0: 1}], [b"1"], [[1]] * 61, [[0] * 41],
    ([1] * 41,), STRANGE, object(),
]
NO_PLACES = [
    None, True, False, "", "0", "1/2", "Beyond", "beyond ", " beyond", b"beyond", ["beyond"], ("beyond",), [1], (1, 0), {},
    LETTER, Fraction([2]), Ratio, STRANGE, object(),
]
NO_FORMS = [
    None, True, False, 1, Ratio(1), "12", "beyond", b"12", {}, {0: 1}, [], (), [0], (0, 0), [0, Ratio(0)], [0] * 25, [True],
    [1, False], [1, None], ["1"], [1, "beyond"], [[1]], [LETTER], [1] * 26, (0,) * 25 + (1,), LETTER, STRANGE, object(),
]
NO_MOVES = NO_FRACTIONS + [
    Fraction([]), Fraction([Ratio(2, 3)]), Fraction([0, 0, 1]), Fraction([1, 0, 1], [0, 1]), Fraction([1], [1] * 25), [LETTER],
    Fraction([2, 2], [1, 1]), 1, Ratio(1),
]
# Of the degrees 8 and 9.
EIGHTH, NINTH = Fraction([1], [0] * 8 + [1]), Fraction([1, 1], [0] * 9 + [1])
NO_FRACTION_LISTS = [
    None, True, "t", b"t", LETTER, {}, {0: LETTER}, [], (), [LETTER] * 5, (LETTER,) * 5, [None], [LETTER, None], [LETTER, 1],
    [[LETTER]], [LETTER, Fraction([3])], [Fraction([])], [NINTH], (LETTER, NINTH), [LETTER, LETTER, LETTER, Ratio(1)], [True],
    STRANGE, object(), Fraction,
]


def ratios(*numbers):
    """The numbers, of Python's own fractions too, as a list of Ratios."""
    return [ratio(number) for number in numbers]


def ratio(number):
    if isinstance(number, Ratio):
        return number
    return Ratio(number.numerator, number.denominator)


def exact(number):
    """A NUMBER as a fraction of Python's own."""
    return Exact(number.top, number.bottom) if isinstance(number, Ratio) else Exact(number)


def is_told(poly):
    """Whether it is a list of Ratios alone, without a nought at its end."""
    if not isinstance(poly, list) or not all(isinstance(number, Ratio) for number in poly):
        return False
    return not poly or poly[-1].sign != 0


def draw_number(draw):
    """A NUMBER of some sort, often 0."""
    kind = draw.randrange(6)
    if kind < 2:
        return 0
    if kind < 4:
        return draw.randint(-9, 9)
    if kind < 5:
        return Ratio(draw.randint(-12, 12), draw.choice([-6, -1, 1, 2, 3, 4]))
    return Ratio(draw.randint(-999999, 999999), draw.randint(1, 999999))


def draw_poly(draw, most):
    """A polynomial of up to so many NUMBERS, as a list or as a tuple."""
    numbers = [draw_number(draw) for _ in range(draw.randint(0, most))]
    return tuple(numbers) if draw.random() < 0.3 else numbers


def draw_place(draw):
    """A place of some sort: a small number, now and then any number, or beyond."""
    kind = draw.randrange(8)
    if kind == 0:
        return "beyond"
    if kind == 1:
        return draw_number(draw)
    return Ratio(draw.randint(-6, 6), draw.choice([1, 1, 2, 3]))


def draw_fraction(draw, degree, most=5):
    """A Fraction of just this degree, with numbers of about this size."""
    while True:
        short = draw.randint(0, degree)
        top = [draw.randint(-most, most) for _ in range(degree + 1)]
        bottom = [Ratio(draw.randint(-most, most), draw.choice([1, 1, 2])) for _ in range(short)] + [draw.randint(1, most)]
        made = Fraction(top, bottom) if draw.random() < 0.7 or not any(top) else Fraction(bottom, top)
        if made.degree == degree:
            return made


def drawing(seed):
    return random.Random(seed)


def product_of(polys):
    """The product of polynomials of any degrees, reckoned in Python's own fractions."""
    product = [Exact(1)]
    for poly in polys:
        numbers = [exact(number) for number in poly]
        longer = [Exact(0)] * max(0, len(product) + len(numbers) - 1)
        for at, one in enumerate(product):
            for by, other in enumerate(numbers):
                longer[at + by] += one * other
        product = longer
    return told(ratios(*product))


def standing(poly):
    """What polynomials are sorted by."""
    return len(poly), [exact(number) for number in poly]


def check_raises(test, wanted, attributes, function, *args, **more):
    """The call raises just this error with just these values as its attributes."""
    with test.assertRaises(wanted) as caught:
        function(*args, **more)
    test.assertEqual(caught.exception.__class__, wanted)
    for name, value in attributes.items():
        held = getattr(caught.exception, name)
        test.assertTrue(held is value or isinstance(value, (int, str)) and held == value, (name, held, value))


def check_refusals(test, function, refused, good):
    """Each bad value of each parameter is refused, by place and by name, and of several the first one.

    refused: for the parameters that are checked, in their sequence, (name, error, bad values).
    good: a dict of arguments for all parameters, in their sequence, that are not refused.
    """
    function(*good.values())
    function(**good)
    for at, (name, error, bad) in enumerate(refused):
        for value in bad:
            given = dict(good)
            given[name] = value
            for later in [None] + refused[at + 1:]:
                if later is not None:
                    given[later[0]] = later[2][0]
                check_raises(test, error, {"value": value}, function, *given.values())
                check_raises(test, error, {"value": value}, function, **given)


def check_call(test, function, good):
    """What the call tells: by place and by name the same, new each time; what was passed stays as it was."""
    kept = copy.deepcopy(good)
    told, again = function(*good.values()), function(**good)
    test.assertEqual(told, again)
    spoil(told)
    test.assertEqual(function(**good), again)
    test.assertEqual(good, kept)
    return again


def spoil(told):
    """Changes all lists in what was told."""
    if isinstance(told, (list, tuple)):
        for part in told:
            spoil(part)
    if isinstance(told, list):
        told.append(None)
