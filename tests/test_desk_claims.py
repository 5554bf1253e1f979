"""[95] to [97]: labels, states, deeds taken back and done again, papers."""

import copy
import unittest
from unittest import mock

from desks import KNOWN, desk_with, failure, picture, shape
from helpers import LETTER, STRANGE, drawing
from innerfractions import errors
from innerfractions.claims import contrary, is_claim, is_paper_of, is_true, paper_of
from innerfractions.curves import Curve
from innerfractions.desk import Desk
from innerfractions.fractions import Fraction
from innerfractions.ratios import Ratio

TWO, THREE, WAVE = Fraction([0, 0, 1]), Fraction([0, 0, 0, 1]), Fraction([1, 0, 1], [0, 1])
KNOT = Curve(TWO, THREE)
NO_LABELS = [
    None, True, 0, 1, "", "K", "k ", "nine9999x", "l", b"k", ["k"], ("k",), {}, LETTER, STRANGE, object(), Ratio(1),
    "two",
]
STEPS = [(1, 0, [[0], [1]], [[0, 1]])]


class States(unittest.TestCase):
    def test_each_word(self):
        for line, claim in [
            ("made t two three", ("made", [TWO, THREE], LETTER)), ("kept t two", ("kept", [TWO], LETTER)),
            ("inner two t", ("inner", TWO, LETTER)), ("apart two three", ("apart", TWO, THREE)),
            ("one t two three", ("one", [TWO, THREE], LETTER)),
            ("notone two two three", ("notone", [TWO, THREE], TWO)), ("whole two", ("whole", TWO)),
            ("halved two", ("halved", TWO)), ("on knot 1/2 -3", ("on", KNOT, (Ratio(1, 2), Ratio(-3)))),
            ("on knot 4 8", ("on", KNOT, (Ratio(4), Ratio(8)))),
            ("off knot 0 0", ("off", KNOT, (Ratio(0), Ratio(0)))), ("same knot knot", ("same", KNOT, KNOT)),
            ("unlike knot knot", ("unlike", KNOT, KNOT)), ("made two two two two two", ("made", [TWO] * 4, TWO)),
            ("made num two", ("made", [TWO], Fraction([Ratio(2, 3)]))),
        ]:
            desk = desk_with()
            state = "true" if is_true(claim) else "false"
            self.assertEqual(desk.do(f"claim k {line}"), f"k {state}")
            self.assertEqual(desk.do("claimed k"), line)
            self.assertEqual((desk.do("state k"), desk.do("states")), (state, f"k {state}"))
            made = desk.claim_of("k")
            self.assertEqual(made, claim)
            self.assertIs(type(made), tuple)
            self.assertIs(is_claim(made), True)
            self.assertEqual([type(part) for part in made], [type(part) for part in claim])
            if isinstance(made[1], list):
                made[1].append(None)
            self.assertEqual(desk.claim_of(label="k"), claim)
            if line.startswith(("on ", "off ")):
                self.assertTrue(all(isinstance(number, Ratio) for number in made[2]))

    def test_changes_are_told(self):
        desk = desk_with(
            "claim m made t two three", "claim b inner three t", "claim a whole two", "claim z on knot 4 8",
            "claim c apart two three", "claim d halved two",
        )
        self.assertEqual(desk.do("states"), "a true, b true, c true, d false, m true, z true")
        for line, answer in [
            ("top three 0,0,0,0,1", "m false"), ("top three 0,0,0,1", "m true"),
            ("top two 0,0,0,0,1", "a false, d true"), ("drop knot", "z gone"), ("curve knot three two", "z false"),
            ("drop knot", "z gone"), ("letter knot", "-"),
            ("drop t", "b gone, m gone"), ("curve t two three", "-"), ("drop t", "-"),
            ("fraction t 1 0,1", "b true, m true"), ("forget b", "-"), ("drop two", "a gone, c gone, d gone, m gone"),
            ("letter two", "c true, m true"),
            ("top two 0,0,0,0,0,0,1", "a false, c false, d true, m false"), ("bottom two 1", "-"),
            ("top two 1", "a gone, c gone, d gone, m gone"), ("fraction other 1 1", "-"), ("top t 5", "-"),
            ("drop two", "-"), ("claim b whole three", "b true"),
        ]:
            before = {label: desk.do("state " + label) for label in desk.labels}
            self.assertEqual(desk.do(line), answer, line)
            now = {label: desk.do("state " + label) for label in desk.labels}
            changed = [f"{label} {now[label]}" for label in sorted(now) if before.get(label) != now[label]]
            self.assertEqual(answer, ", ".join(changed) or "-")
            for label in desk.labels:
                claim = desk.claim_of(label)
                self.assertEqual(now[label], "gone" if claim is None else "true" if is_true(claim) else "false")

    def test_gone(self):
        desk = desk_with(
            "claim a made t two three", "claim b inner two t", "claim c one t two", "claim d whole two",
            "claim e on knot 4 8", "claim f same knot knot",
        )
        # Degrees beyond those of claims, numbers, things of another kind.
        self.assertEqual(desk.do("top two 0,0,0,0,0,0,0,1"), "d gone")
        self.assertEqual(desk.do("top two 0,0,0,0,0,0,0,0,0,1"), "a gone, c gone")
        self.assertEqual(desk.do("top two 0,0,0,0,0,0,0,0,0,0,0,0,1"), "-")
        self.assertEqual(desk.do("top two 0,0,0,0,0,0,0,0,0,0,0,0,0,1"), "b gone")
        self.assertIsNone(desk.claim_of("a"))
        self.assertEqual(desk.do_all("drop knot", "fraction knot 0,1 1"), ["e gone, f gone", "-"])
        self.assertEqual(desk.do("states"), "a gone, b gone, c gone, d gone, e gone, f gone")
        self.assertEqual([desk.claim_of(label) for label in desk.labels], [None] * 6)
        self.assertEqual(
            desk.do_all("drop two", "curve two t three", "drop two", "fraction two 0,0,1 1"),
            ["-", "-", "-", "a true, b true, c false, d true"],
        )

    def test_labels(self):
        desk = desk_with("claim k whole two", "claim a1 inner two t")
        self.assertEqual(desk.labels, ["a1", "k"])
        desk.labels.append("x")
        desk.names.append("x")
        self.assertEqual((desk.labels, desk.names), (["a1", "k"], sorted(line.split()[1] for line in KNOWN)))
        for label in NO_LABELS:
            for function, more in [
                (desk.claim_of, []), (desk.fits, []), (desk.attach, [None]), (desk.attach, [(TWO, 1)]),
            ]:
                error = failure(function, label, *more)
                self.assertIs(error.__class__, errors.UnknownLabel)
                self.assertIs(error.value, label)
        self.assertEqual(shape(failure(lambda: desk.claim_of(label="x"))), (errors.UnknownLabel, {"value": "x"}))

    def test_where_a_limit_stops_it(self):
        # No claim within its bounds meets a limit, so one is put in.
        desk = desk_with("claim k made t two three", "claim l whole wave")
        desk.attach("k", STEPS)
        with mock.patch("innerfractions.pages.is_true", side_effect=errors.TooMany("degree", 6)):
            self.assertEqual(desk.do("top two 0,0,3"), "k gone")
            self.assertEqual((desk.claim_of("k"), desk.fits("k")), (None, False))
            self.assertEqual(shape(failure(desk.attach, "k", STEPS)), (errors.InvalidPaper, {"value": STEPS}))
            claim = ("inner", desk["two"], LETTER)
            self.assertEqual(shape(failure(desk.do, "claim m inner two t")), (errors.InvalidClaim, {"value": claim}))
        with mock.patch("innerfractions.pages.is_paper_of", side_effect=errors.TooMany("degree", 6)):
            desk.do("undo")
            self.assertIs(desk.fits("k"), False)
            self.assertEqual(shape(failure(desk.attach, "k", STEPS)), (errors.InvalidPaper, {"value": STEPS}))
        self.assertIs(desk.fits("k"), True)

    def test_forgotten_and_noted_again(self):
        desk = desk_with("claim k whole two", "forget k", "claim k halved two")
        self.assertEqual((desk.do("state k"), desk.do("claimed k")), ("false", "halved two"))


class TakenBack(unittest.TestCase):
    def test_each_deed(self):
        desk, seen = Desk(), []
        lines = KNOWN + [
            "claim k made t two three", "top three 0,0,0,0,1", "drop t", "claim l on knot 4 8", "drop knot", "forget k",
            "bottom two 1,1", "claim k whole wave", "curve knot led wave", "first a knot", "forget l", "power b led 3",
            "letter t", "drop a",
        ]
        for line in lines:
            seen.append(picture(desk))
            desk.do(line)
        last = picture(desk)
        for line, wanted in reversed(list(zip(lines, seen))):
            self.assertEqual(desk.do("undo"), line)
            self.assertEqual(picture(desk)[:8], wanted[:8])
        self.assertEqual(shape(failure(desk.do, "undo")), (errors.NothingToUndo, {}))
        for at, line in enumerate(lines):
            self.assertEqual(picture(desk)[:8], seen[at][:8])
            self.assertEqual(len(desk), at)
            self.assertEqual(desk.do("redo"), line)
        self.assertEqual(picture(desk), last)
        self.assertEqual(shape(failure(desk.do, "redo")), (errors.NothingToRedo, {}))

    def test_a_deed_between(self):
        desk = desk_with("letter a", "letter b")
        desk.do_all("undo", "undo")
        desk.do("letter c")
        self.assertEqual(shape(failure(desk.do, "redo")), (errors.NothingToRedo, {}))
        self.assertEqual(desk.lines(), KNOWN + ["letter c"])
        # What is no deed, and a deed that fails, do not come between.
        desk.do("undo")
        desk.do_all("names", "show two", "states", "worth two 1")
        failure(desk.do, "letter two")
        failure(desk.do, "state k")
        desk.attempt("letter d")
        self.assertEqual(desk.do("redo"), "letter c")
        self.assertEqual(desk.do_all("undo", "redo", "undo"), ["letter c"] * 3)
        self.assertEqual(
            desk.do_all("letter z", "undo", "undo", "redo", "redo"),
            ["-", "letter z", "fraction led 1,2 3,4", "fraction led 1,2 3,4", "letter z"],
        )

    def test_drawn(self):
        draw = drawing(431)
        words = [
            "letter {n}", "fraction {n} {p} 1,1", "sum {n} {m} {o}", "times {n} {m} {o}", "curve {n} {m} {o}",
            "top {n} {p}", "drop {n}", "claim {k} inner {n} {m}", "claim {k} made {n} {m} {o}",
            "claim {k} same {n} {m}", "forget {k}", "undo", "redo", "undo", "states",
        ]
        for _ in range(12):
            desk, deeds, ahead = Desk(), [], []
            for _ in range(60):
                names = {key: draw.choice("abcd") for key in "nmo"}
                line = draw.choice(words).format(
                    k=draw.choice("kl"), p=draw.choice(["0,0,1", "0,1", "1", "1,0,0,1", "-"]), **names,
                )
                before, states = picture(desk), {label: desk.do("state " + label) for label in desk.labels}
                try:
                    answer = desk.do(line)
                except Exception as error:
                    self.assertNotIsInstance(error, (errors.InvalidCommand, AttributeError, TypeError, KeyError))
                    self.assertEqual(picture(desk), before)
                    continue
                if line == "undo":
                    ahead.append(deeds.pop())
                    self.assertEqual(answer, ahead[-1])
                elif line == "redo":
                    deeds.append(ahead.pop())
                    self.assertEqual(answer, deeds[-1])
                elif line != "states":
                    deeds.append(line)
                    ahead.clear()
                    now = {label: desk.do("state " + label) for label in desk.labels}
                    changed = [f"{label} {now[label]}" for label in sorted(now) if states.get(label) != now[label]]
                    self.assertEqual(answer, ", ".join(changed) or "-")
                self.assertEqual((desk.lines(), len(desk)), (deeds, len(deeds)))
                # All is as if only these deeds had been done, one behind the other.
                self.assertEqual(picture(Desk.again(deeds))[:8], picture(desk)[:8])
                for label in desk.labels:
                    claim = desk.claim_of(label)
                    self.assertEqual(
                        desk.do("state " + label), "gone" if claim is None else "true" if is_true(claim) else "false",
                    )


class Papers(unittest.TestCase):
    def fails(self, desk, label, paper):
        before = picture(desk)
        error = failure(desk.attach, label, paper)
        self.assertIs(error.__class__, errors.InvalidPaper)
        self.assertIs(error.value, paper)
        self.assertEqual(picture(desk), before)

    def test_of_claims_and_contraries(self):
        for line in (
            "made t two three", "kept t two three", "kept t two", "made t two", "inner two t", "apart two three",
            "one t two three", "inner two three", "halved wave", "on knot 4 8", "off knot 4 8", "same knot knot",
            "unlike knot knot", "same knot other", "unlike knot other",
        ):
            desk = desk_with("curve other two two", f"claim k {line}")
            claim = desk.claim_of("k")
            true = claim if is_true(claim) else contrary(claim)
            self.assertIs(desk.fits("k"), False)
            paper = paper_of(true)
            if paper is None:
                continue
            deeds = desk.lines()
            self.assertIsNone(desk.attach("k", paper))
            self.assertIs(desk.fits("k"), True)
            self.assertIs(desk.fits(label="k"), True)
            self.assertEqual(desk.lines(), deeds)
            self.assertIsNone(desk.attach(paper=paper, label="k"))

    def test_no_papers(self):
        desk = desk_with(
            "claim k made t two three", "claim w whole two", "claim o off knot 1 2", "claim n notone t two",
        )
        for value in (
            None, True, 0, 1, "paper", [], (), [1], LETTER, (TWO, 1), [(1, 0, [[0], [1]], [[1]])], STEPS[0], STRANGE,
            object(), "beyond", KNOT,
        ):
            for label in desk.labels:
                if not is_paper_of(desk.claim_of(label), value):
                    self.fails(desk, label, value)
                    self.assertIs(desk.fits(label), False)
        desk.attach("k", STEPS)
        self.fails(desk, "k", (TWO, 1))
        self.assertIs(desk.fits("k"), True)

    def test_while_gone(self):
        desk = desk_with("claim k made t two three")
        desk.attach("k", STEPS)
        desk.do("drop three")
        self.assertIs(desk.fits("k"), False)
        self.fails(desk, "k", STEPS)
        self.assertEqual(desk.do("undo"), "drop three")
        self.assertIs(desk.fits("k"), True)
        desk.do("redo")
        self.assertIs(desk.fits("k"), False)
        desk.do("fraction three 0,0,0,1 1")
        self.assertIs(desk.fits("k"), True)

    def test_as_things_are_now(self):
        desk = desk_with("claim k made t two three")
        desk.attach("k", STEPS)
        # As things are then the steps come to t t t, not to t.
        for line, fits in [
            ("top two 0,1", False), ("top three 0,0,1", True), ("top three 0,0,0,1", False), ("top two 0,0,1", True),
            ("drop t", False), ("fraction t 1 0,1", False), ("undo", False), ("undo", True), ("undo", False),
            ("redo", True),
        ]:
            desk.do(line)
            self.assertIs(desk.fits("k"), fits, line)

    def test_kept_for_the_contrary(self):
        desk = desk_with("claim k made t two")
        desk.attach("k", (TWO, 1))
        self.assertIs(desk.fits("k"), True)
        # It stays one of what it was kept for.
        desk.do("top two 0,1")
        self.assertEqual(desk.do("state k"), "true")
        self.assertIs(desk.fits("k"), False)
        desk.do("top two 0,0,0,1")
        self.assertIs(desk.fits("k"), False)
        desk.do("undo")
        desk.do("undo")
        self.assertIs(desk.fits("k"), True)
        desk.do("forget k")
        self.assertEqual(shape(failure(desk.fits, "k")), (errors.UnknownLabel, {"value": "k"}))
        desk.do("claim k kept t two")
        self.assertIs(desk.fits("k"), False)
        self.assertIsNone(desk.attach("k", (TWO, 1)))
        self.assertIs(desk.fits("k"), True)

    def test_in_the_place_of_another(self):
        desk = desk_with("claim k halved wave", "times four two two", "claim l halved four")
        desk.attach("l", (TWO, TWO))
        self.assertIs(desk.fits("k"), False)
        other = (TWO - 1, TWO)
        self.fails(desk, "l", other)
        self.assertIs(desk.fits("l"), True)
        first = Fraction([1, 2, 1]), Fraction([-1, 0, 1])
        desk.attach("l", first)
        self.assertIs(desk.fits("l"), True)

    def test_words(self):
        desk = desk_with("claim k made t two three")
        desk.attach("k", STEPS)
        for line, fits in [
            ("forget k", None), ("claim k made t two three", True), ("forget k", None),
            ("claim k made t two three three", False), ("undo", None), ("undo", True), ("undo", None), ("undo", True),
            ("forget k", None), ("claim k kept t two three", False),
            ("forget k", None), ("claim k inner t t", False), ("forget k", None), ("claim k made t two three", True),
        ]:
            desk.do(line)
            if fits is None:
                self.assertEqual(shape(failure(desk.fits, "k")), (errors.UnknownLabel, {"value": "k"}))
            else:
                self.assertIs(desk.fits("k"), fits, line)

    def test_whatever_is_taken_back(self):
        desk = desk_with("claim k on knot 4 8")
        desk.attach("k", [-2, 1])
        while len(desk):
            desk.do("undo")
        self.assertEqual(shape(failure(desk.fits, "k")), (errors.UnknownLabel, {"value": "k"}))
        for _ in range(len(KNOWN) + 1):
            desk.do("redo")
        self.assertIs(desk.fits("k"), True)
        self.assertEqual(shape(failure(desk.do, "redo")), (errors.NothingToRedo, {}))

    def test_no_deed(self):
        desk = desk_with("claim k made t two three", "letter x")
        desk.do("undo")
        before = desk.lines()
        desk.attach("k", STEPS)
        self.assertEqual(desk.lines(), before)
        self.assertEqual(desk.do("redo"), "letter x")

    def test_copied(self):
        desk = desk_with("claim k made t two three", "claim o one t two three")
        paper, other = copy.deepcopy(STEPS), ([TWO, THREE], 1)
        desk.attach("k", paper)
        desk.attach("o", other)
        paper[0][2][0][0] = 7
        paper.clear()
        other[0].append(LETTER)
        self.assertEqual([desk.fits("k"), desk.fits("o")], [True, True])


if __name__ == "__main__":
    unittest.main()
