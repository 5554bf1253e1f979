"""[93], [94]: claims, contraries, papers."""

import copy
import unittest

from drawn_curves import CUSP, FIFTH, FOURTH, KNOT, KNOWN, LEVEL, LINE, NO_CURVES, NO_POINTS, RING, TWICE, UPRIGHT
from drawn_curves import draw_curve, moved
from helpers import EIGHTH, LETTER, NINTH, NO_FRACTION_LISTS, NO_FRACTIONS, STRANGE, check_call, check_raises
from helpers import check_refusals, draw_fraction, drawing
from innerfractions.claims import contrary, is_claim, is_paper_of, is_true, paper_of, words
from innerfractions.curves import Curve
from innerfractions.doubles import is_other_place, is_same_move, same_curve
from innerfractions.equations import is_on, places_at
from innerfractions.errors import InvalidClaim
from innerfractions.forms import are_like, is_form, told_form
from innerfractions.fractions import Fraction, letter, put
from innerfractions.halves import is_whole_fraction
from innerfractions.kept import is_kept_apart
from innerfractions.made import is_made, is_made_steps
from innerfractions.ones import is_the_one, lone_place, outers
from innerfractions.outer import is_inner, is_parting_place, outer
from innerfractions.places import is_place
from innerfractions.ratios import Ratio
from innerfractions.twins import common_part
from moving import FOURTH as QUARTER

WORDS = [
    ("made", "kept"), ("inner", "apart"), ("one", "notone"), ("whole", "halved"), ("on", "off"), ("same", "unlike"),
]
SQUARE, CUBE, WAVE = Fraction([0, 0, 1]), Fraction([0, 0, 0, 1]), Fraction([1, 0, 1], [0, 1])
BOTH, NEAR = Fraction([1, 0, 0, 0, 1], [0, 0, 1]), Fraction([-1, 0, 1], [0, 1])
NUMBER = Fraction([Ratio(2, 3)])


def power(many):
    return Fraction([0] * many + [1])


# Of each line the parts, and whether the first word is true of them.
KNOWN_CLAIMS = [
    ("made", ([SQUARE, CUBE], LETTER), True), ("made", ([SQUARE], LETTER), False),
    ("made", ((SQUARE,), power(8)), True), ("made", ([power(6)], SQUARE), False), ("made", ([SQUARE], NUMBER), True),
    ("made", ([power(6), power(8), power(4), power(2)], SQUARE), True), ("made", ([BOTH, NEAR], WAVE), False),
    ("made", ([EIGHTH], Fraction([])), True), ("made", ([power(4), power(6)], CUBE), False),
    ("inner", (BOTH, WAVE), True), ("inner", (CUBE, SQUARE), False), ("inner", (SQUARE, CUBE), False),
    ("inner", (power(12), power(4)), True), ("inner", (power(12), power(5)), False), ("inner", (SQUARE, SQUARE), True),
    ("inner", (LETTER, Fraction([1], [0, 1])), True), ("inner", (power(12), LETTER), True),
    ("inner", (LETTER, power(12)), False),
    ("one", ([SQUARE, CUBE], LETTER), True), ("one", ([SQUARE, CUBE], Fraction([1, 2], [3, 4])), True),
    ("one", ([SQUARE, CUBE], SQUARE), False), ("one", ((power(4), power(6)), Fraction([1], [0, 0, 1])), True),
    ("one", ([BOTH, NEAR], WAVE), False), ("one", ([EIGHTH] * 4, EIGHTH), True), ("one", ([EIGHTH], LETTER), False),
    ("one", ([power(6)], power(3)), False),
    ("whole", (SQUARE,), True), ("whole", (CUBE,), True), ("whole", (power(4),), False), ("whole", (BOTH,), False),
    ("whole", (power(5),), True), ("whole", (power(6),), False),
    ("whole", (Fraction([1, 1, 0, 0, 1], [0, 0, 0, 1]),), True), ("whole", (put(CUBE, WAVE),), False),
    ("whole", (put(WAVE, CUBE + LETTER),), False),
    ("on", (RING, (Ratio(3, 5), Ratio(4, 5))), True), ("on", (RING, (1, 1)), False), ("on", (KNOT, (0, 0)), True),
    ("on", (RING, (-1, 0)), True), ("on", (UPRIGHT, (Ratio(2, 3), 0)), True),
    ("on", (UPRIGHT, (0, 0)), False), ("on", (FIFTH, (32, 4)), True), ("on", (FIFTH, (32, -4)), False),
    ("on", (Curve(SQUARE, Fraction([0, 2, 0, -1, 1])), (2, 4)), True), ("on", (LEVEL, (2, 1)), False),
    ("same", (KNOT, moved(KNOT, LETTER + 1)), True), ("same", (KNOT, RING), False),
    ("same", (TWICE, TWICE.plain()), True), ("same", (LINE, UPRIGHT), False),
    ("same", (CUSP, Curve(SQUARE, CUBE * 2)), False),
    ("same", (CUSP, moved(CUSP, SQUARE - 1)), True), ("same", (FIFTH, FIFTH), True), ("same", (FIFTH, FOURTH), False),
]
# Values that some papers are, or nearly.
VALUES = [
    None, True, False, 0, 1, -1, Ratio(1, 2), "beyond", "beside", [], (), [1], [0, 1], [0, 0, 1], [1, 0], [-1, 0, 1],
    LETTER, SQUARE, CUBE, NUMBER, Fraction([1, 1]), (SQUARE, 1), (LETTER, 1), (SQUARE, SQUARE),
    (SQUARE, CUBE), [SQUARE, SQUARE], ([SQUARE, CUBE], 1), ([LETTER], 1), ([SQUARE], "beyond"),
    [(1, 0, [[0], [1]], [[0, 1]])], [(0, 0, [[0], [1]], [[1]])], ((0, 0, [[0], [1]], [[1]]),),
    (0, 0, [[0], [1]], [[1]]),
    KNOT, STRANGE, {}, {0: 1}, object(), Fraction, "paper", b"paper",
]


def judged(word, parts, value):
    """[93]: whether the value is a paper, by what judges it."""
    if word in ("made", "kept"):
        return (is_made_steps if word == "made" else is_kept_apart)(*parts, value)
    if word == "inner":
        if not isinstance(value, Fraction) or value.degree * parts[1].degree != parts[0].degree:
            return False
        return put(value, parts[1]) == parts[0]
    if word == "apart":
        return is_parting_place(*parts, value)
    if word == "one":
        if not isinstance(value, tuple) or len(value) != 2 or not isinstance(value[0], (list, tuple)):
            return False
        if not is_place(value[1]):
            return False
        if len(value[0]) != len(parts[0]) or not all(isinstance(one, Fraction) for one in value[0]):
            return False
        met = all(one == outer(told, parts[1]) for one, told in zip(value[0], parts[0]))
        return met and len(common_part(parts[0], value[1])) == parts[1].degree + 1
    if word == "halved":
        if not isinstance(value, tuple) or len(value) != 2 or not all(
            isinstance(one, Fraction) and one.degree >= 2 for one in value
        ):
            return False
        return is_inner(parts[0], value[1]) and outer(parts[0], value[1]) == value[0]
    if word == "on":
        form = places_at(*parts)
        return form is not None and is_form(value) and are_like(value, form)
    if word == "same":
        return is_same_move(*parts, value)
    return word == "unlike" and is_other_place(*parts, value)


class Claims(unittest.TestCase):
    def check(self, word, parts, wanted):
        """The claim, its contrary, and the papers of both."""
        line = next(line for line in WORDS if word in line)
        for one, holds in [(line[0], wanted), (line[1], not wanted)]:
            claim = (one,) + tuple(parts)
            self.assertIs(check_call(self, is_claim, {"value": claim}), True, claim)
            self.assertIs(check_call(self, is_true, {"claim": claim}), holds, claim)
            self.check_contrary(claim, line)
            self.check_paper(claim, holds)

    def check_contrary(self, claim, line):
        other = check_call(self, contrary, {"claim": claim})
        self.assertEqual(other, (line[1] if claim[0] == line[0] else line[0],) + claim[1:])
        for one, part in zip(claim[1:], other[1:]):
            self.assertIs(type(one), type(part))
            if isinstance(one, list):
                self.assertIsNot(one, part)
        self.assertEqual(contrary(other), claim)
        self.assertIs(is_true(other), not is_true(claim))

    def check_paper(self, claim, holds):
        word, parts = claim[0], claim[1:]
        paper = check_call(self, paper_of, {"claim": claim})
        if word in ("notone", "whole", "off"):
            self.assertIsNone(paper)
        else:
            self.assertEqual(paper is not None, holds, claim)
        if paper is not None:
            self.judge(claim, paper, True)
            self.judge(contrary(claim), paper, False)
            for bent in bends(paper):
                self.judge(claim, bent, judged(word, parts, bent))
        for value in VALUES:
            self.judge(claim, value, judged(word, parts, value))

    def judge(self, claim, value, wanted):
        self.assertIs(is_paper_of(claim, value), wanted, (claim, value))
        self.assertIs(is_paper_of(value=value, claim=claim), wanted)
        if wanted:
            self.assertIs(is_true(claim), True)

    def test_known(self):
        for word, parts, wanted in KNOWN_CLAIMS:
            if word == "same" and not wanted:
                self.assertIsNone(same_curve(*parts))
            self.check(word, parts, wanted)
        self.assertEqual({word for word, _, _ in KNOWN_CLAIMS}, {line[0] for line in WORDS})

    def test_drawn(self):
        draw = drawing(421)
        for _ in range(12):
            inner = draw_fraction(draw, draw.randint(1, 3), 3)
            most = 8 // inner.degree
            told = [put(draw_fraction(draw, draw.randint(1, most), 3), inner) for _ in range(draw.randint(1, 3))]
            other = draw_fraction(draw, draw.randint(1, 6), 3)
            for fraction in (inner, other, put(draw_fraction(draw, 1, 3), told[0])):
                self.check("made", (told, fraction), is_made(told, fraction))
                self.check("one", (told, fraction), is_the_one(told, fraction))
                self.check("inner", (told[0], fraction), is_inner(told[0], fraction))
            if 2 <= other.degree <= 6:
                self.check("whole", (other,), is_whole_fraction(other))
            made = put(draw_fraction(draw, 2, 3), draw_fraction(draw, draw.randint(2, 3), 3))
            self.check("whole", (made,), False)

    def test_drawn_curves(self):
        draw = drawing(422)
        for _ in range(12):
            curve, other = draw_curve(draw, 3), draw_curve(draw, 3)
            point = curve.point(draw.randint(-5, 5))
            if "beyond" not in point:
                self.check("on", (curve, point), True)
                self.check("on", (other, point), is_on(other, point))
            self.check("same", (curve, moved(curve, draw_fraction(draw, 1, 3))), True)
            self.check("same", (curve, other), same_curve(curve, other) is not None)

    def test_words(self):
        self.assertEqual(check_call(self, words, {}), WORDS)
        self.assertTrue(all(type(line) is tuple for line in words()))

    def test_parts_as_they_were_passed(self):
        for claim, other in [
            (("one", (SQUARE,), CUBE), ("notone", (SQUARE,), CUBE)),
            (("made", [SQUARE], CUBE), ("kept", [SQUARE], CUBE)),
            (("on", KNOT, (0, Ratio(4, 2))), ("off", KNOT, (0, Ratio(4, 2)))),
            (("unlike", KNOT, RING), ("same", KNOT, RING)), (("halved", CUBE), ("whole", CUBE)),
            (("apart", CUBE, SQUARE), ("inner", CUBE, SQUARE)),
        ]:
            made = check_call(self, contrary, {"claim": claim})
            self.assertEqual(made, other)
            self.assertEqual([type(part) for part in made], [type(part) for part in other])
        self.assertEqual([type(number) for number in contrary(("on", KNOT, (0, Ratio(2))))[2]], [int, Ratio])


def bends(paper):
    """The paper with a part left out or put in, a list for a tuple, a number changed."""
    if isinstance(paper, (list, tuple)):
        kind, other = type(paper), tuple if isinstance(paper, list) else list
        yield other(paper)
        yield kind(list(paper)[:-1])
        yield kind(list(paper) + [paper[-1] if paper else 0])
        yield kind(list(paper)[::-1])
        for at, part in enumerate(paper):
            for bent in bends(part):
                yield kind([bent if by == at else one for by, one in enumerate(paper)])
    elif isinstance(paper, Fraction):
        yield paper + 1
        yield put(paper, LETTER + 1)
        yield Fraction([0, 0, 1])
        yield paper.upper()
    elif isinstance(paper, (int, Ratio)):
        yield paper + 1
        yield str(paper)
        yield paper * 0
    else:
        yield 0


class Papers(unittest.TestCase):
    def test_shown(self):
        for claim, value, wanted in [
            (("made", [SQUARE, CUBE], LETTER), [(0, 1, [[0, 1]], [[0], [1]])], True),
            (("made", [SQUARE, CUBE], LETTER), ((0, 1, ((0, 1),), ((0,), (1,))),), True),
            (("made", [SQUARE, CUBE], LETTER), [(1, 0, [[0, 1]], [[0], [1]])], False),
            (("kept", [SQUARE], LETTER), (SQUARE, 1), True), (("kept", [SQUARE], LETTER), [SQUARE, 1], False),
            (("kept", [SQUARE], NUMBER), (SQUARE, 1), False),
            (("inner", BOTH, WAVE), Fraction([-2, 0, 1]), True), (("inner", BOTH, WAVE), Fraction([-1, 0, 1]), False),
            (("inner", BOTH, WAVE), power(24), False), (("inner", CUBE, SQUARE), NUMBER, False),
            (("apart", CUBE, SQUARE), 1, True), (("apart", CUBE, SQUARE), Ratio(1), True),
            (("apart", CUBE, SQUARE), 0, False), (("apart", CUBE, SQUARE), "beyond", False),
            (("apart", BOTH, WAVE), 1, False),
            (("one", [SQUARE, CUBE], LETTER), ([SQUARE, CUBE], 1), True),
            (("one", [SQUARE, CUBE], LETTER), ((SQUARE, CUBE), 1), True),
            (("one", [SQUARE, CUBE], LETTER), ([SQUARE, CUBE], 0), False),
            (("one", [SQUARE, CUBE], LETTER), [[SQUARE, CUBE], 1], False),
            (("one", [SQUARE, CUBE], LETTER + 1), ([put(SQUARE, LETTER - 1), put(CUBE, LETTER - 1)], 1), True),
            (("one", [SQUARE, CUBE], LETTER), ([CUBE, SQUARE], 1), False),
            (("one", [power(4)], SQUARE), ([SQUARE], 1), False), (("one", [power(4)], power(4)), ([LETTER], 1), True),
            (("one", [power(4)], power(4)), ([LETTER], "beyond"), True),
            (("notone", [power(4)], SQUARE), ([SQUARE], 1), False),
            (("halved", power(4)), (SQUARE, SQUARE), True), (("halved", power(4)), [SQUARE, SQUARE], False),
            (("halved", power(4)), (LETTER, power(4)), False), (("halved", power(4)), (power(4), LETTER), False),
            (("halved", power(6)), (SQUARE, CUBE), True), (("halved", power(6)), (CUBE, SQUARE), True),
            (("halved", power(6)), (SQUARE, SQUARE), False), (("whole", power(6)), (SQUARE, CUBE), False),
            (("halved", BOTH), (Fraction([-2, 0, 1]), WAVE), True),
            (("halved", power(4)), (power(24), SQUARE), False), (("halved", power(4)), (NUMBER, SQUARE), False),
            (("halved", power(4)), (SQUARE, SQUARE, SQUARE), False),
            (("on", KNOT, (0, 0)), [-1, 0, 1], True), (("on", KNOT, (0, 0)), (2, 0, Ratio(-2)), True),
            (("on", KNOT, (0, 0)), [-1, 0, 1, 0], False), (("on", KNOT, (0, 0)), [-1, 1], False),
            (("on", KNOT, (0, 0)), [0, 0, 0], False),
            (("on", RING, (-1, 0)), [7, 0], True), (("on", RING, (-1, 0)), [7], False),
            (("off", KNOT, (0, 1)), [1], False), (("off", KNOT, (0, 1)), None, False),
            (("on", KNOT, (0, 1)), None, False),
            (("same", KNOT, moved(KNOT, LETTER + 1)), LETTER + 1, True),
            (("same", KNOT, moved(KNOT, LETTER + 1)), LETTER, False),
            (("unlike", KNOT, moved(KNOT, LETTER + 1)), 7, False), (("unlike", KNOT, RING), 7, True),
            (("unlike", KNOT, RING), "beyond", False), (("same", KNOT, RING), LETTER, False),
        ]:
            self.assertIs(is_paper_of(claim, value), wanted, (claim, value))
            if wanted:
                self.assertIs(is_paper_of(contrary(claim), value), False)

    def test_what_others_tell_are_papers(self):
        told = [put(QUARTER, power(4)), power(6)]
        self.assertIs(is_paper_of(("one", told, SQUARE), (outers(told), lone_place(told))), True)
        for curve in KNOWN:
            for place in (0, 1, 5):
                point = curve.point(place)
                if "beyond" not in point:
                    self.assertIs(is_paper_of(("on", curve, point), places_at(curve, point)), True)
                    self.assertIs(
                        is_paper_of(
                            ("on", curve, point), told_form([3 * number for number in places_at(curve, point)]),
                        ),
                        True,
                    )


class Judged(unittest.TestCase):
    def test_parts_at_their_bounds(self):
        for claim, wanted in [
            (("made", [EIGHTH] * 4, EIGHTH), True), (("made", [EIGHTH] * 5, EIGHTH), False),
            (("made", [EIGHTH], NINTH), False), (("kept", [NINTH], LETTER), False), (("made", [EIGHTH], NUMBER), True),
            (("kept", [NUMBER], LETTER), False),
            (("made", [], LETTER), False), (("made", (EIGHTH,), LETTER), True), (("inner", power(12), power(12)), True),
            (("inner", power(13), LETTER), False), (("apart", LETTER, power(13)), False),
            (("inner", NUMBER, LETTER), False),
            (("apart", LETTER, NUMBER), False), (("one", [EIGHTH], EIGHTH), True), (("one", [EIGHTH], NINTH), False),
            (("notone", [EIGHTH], NUMBER), False), (("notone", [NINTH], LETTER), False),
            (("one", [SQUARE, NUMBER], LETTER), False),
            (("whole", power(6)), True), (("whole", power(7)), False), (("halved", LETTER), False),
            (("whole", SQUARE), True), (("halved", NUMBER), False), (("on", KNOT, (1, Ratio(1, 2))), True),
            (("off", KNOT, (1, "beyond")), False),
            (("on", KNOT, [1, 2]), False), (("same", KNOT, FIFTH), True), (("unlike", KNOT, None), False),
            (("same", KNOT), False), (("same", KNOT, KNOT, KNOT), False), (("whole", CUBE, CUBE), False),
            (("made", [SQUARE]), False),
            (["made", [SQUARE], LETTER], False), (("Made", [SQUARE], LETTER), False),
            (("made ", [SQUARE], LETTER), False), ((b"made", [SQUARE], LETTER), False),
            (("is", [SQUARE], LETTER), False), (("", [SQUARE], LETTER), False), (("made", SQUARE, LETTER), False),
            ((), False), (("made",), False), ((None, [SQUARE], LETTER), False), ((["made"], [SQUARE], LETTER), False),
            (("on", KNOT, (1,)), False), (("on", SQUARE, (1, 1)), False), (("on", KNOT, (True, 1)), False),
            (("inner", SQUARE, [LETTER]), False),
            (("one", [SQUARE], [SQUARE]), False), (("whole", [SQUARE]), False), (("whole",), False),
            ((("made", "kept"), [SQUARE], LETTER), False), ((0, [SQUARE], LETTER), False),
            (("apart", SQUARE, 1), False),
        ]:
            self.assertIs(is_claim(claim), wanted, claim)
            self.assertIs(is_claim(value=claim), wanted)
            if not wanted:
                for function, more in [(is_true, []), (contrary, []), (paper_of, []), (is_paper_of, [None])]:
                    check_raises(self, InvalidClaim, {"value": claim}, function, claim, *more)

    def test_parts_of_other_kinds(self):
        for value in NO_FRACTION_LISTS:
            for word in ("made", "kept", "one", "notone"):
                self.assertIs(is_claim((word, value, LETTER)), False)
        for value in NO_FRACTIONS:
            for claim in (
                ("made", [SQUARE], value), ("one", [SQUARE], value), ("inner", value, LETTER), ("apart", LETTER, value),
                ("whole", value), ("halved", value),
            ):
                self.assertIs(is_claim(claim), False)
        for value in NO_CURVES:
            for claim in (
                ("on", value, (0, 0)), ("off", value, (0, 0)), ("same", value, KNOT), ("unlike", KNOT, value),
            ):
                self.assertIs(is_claim(claim), False)
        for value in NO_POINTS:
            self.assertIs(is_claim(("on", KNOT, value)), False)
            self.assertIs(is_claim(("off", KNOT, value)), False)

    def test_any_value(self):
        values = [
            None, True, 0, "made", b"", [], {}, LETTER, KNOT, Ratio(1), STRANGE, object(), Fraction,
            ("made", STRANGE, STRANGE), (STRANGE,), (STRANGE, [SQUARE], LETTER),
        ]
        for value in values:
            self.assertIs(is_claim(value), False)
        check_refusals(self, is_true, [("claim", InvalidClaim, values)], {"claim": ("whole", CUBE)})
        check_refusals(self, contrary, [("claim", InvalidClaim, values)], {"claim": ("on", KNOT, (0, 0))})
        check_refusals(self, paper_of, [("claim", InvalidClaim, values)], {"claim": ("halved", CUBE)})
        check_refusals(
            self, is_paper_of, [("claim", InvalidClaim, values)], {"claim": ("notone", [CUBE], CUBE), "value": None},
        )

    def test_what_was_passed_stays(self):
        told = [SQUARE, CUBE]
        claim = ("made", told, LETTER)
        kept = copy.deepcopy(claim)
        contrary(claim)[1].append(None)
        self.assertEqual(claim, kept)
        self.assertIs(claim[1], told)


if __name__ == "__main__":
    unittest.main()
