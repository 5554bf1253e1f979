"""The interface of the desk: several commands at once, lines, copies, trials, access."""

import unittest

from desks import KNOWN, desk_with, failure, picture, shape
from helpers import LETTER, STRANGE
from innerfractions import errors
from innerfractions.curves import Curve
from innerfractions.desk import Desk, Trial, tried
from innerfractions.fractions import Fraction, letter
from innerfractions.ratios import Ratio

TWO, THREE = Fraction([0, 0, 1]), Fraction([0, 0, 0, 1])
STEPS = [(1, 0, [[0], [1]], [[0, 1]])]
# Commands that fail at a desk with the known things, with their errors.
FAILING = [
    ("foo", errors.InvalidCommand, {"value": "foo"}), (None, errors.InvalidCommand, {"value": None}),
    (17, errors.InvalidCommand, {"value": 17}), ("letter two", errors.NameTaken, {"name": "two"}),
    ("drop x", errors.UnknownName, {"value": "x"}),
    ("state x", errors.UnknownLabel, {"value": "x"}), ("fraction x 1 -", errors.NoughtBottom, {}),
    ("claim x whole t", errors.InvalidClaim, {"value": ("whole", letter())}),
    ("undone x two", errors.InvalidMove, {"value": TWO}),
    ("joined x two num", errors.NotFull, {}), ("outer x two three", errors.NotInner, {}),
    ("moves num", errors.NotFull, {}), ("power x led 99", errors.InvalidPower, {"value": 99}),
]


class Several(unittest.TestCase):
    def test_all(self):
        desk, other = desk_with(), desk_with()
        lines = ["letter x", "claim k inner x t", "names", "top x 0,0,1", "undo", "states", "redo", "show x", "state k"]
        answers = desk.do_all(*lines)
        self.assertIs(type(answers), list)
        self.assertEqual(answers, [other.do(line) for line in lines])
        self.assertEqual(
            answers,
            [
                "-", "k true", "knot led num t three two wave x", "-", "top x 0,0,1", "k true", "top x 0,0,1",
                "0,0,1 1", "true",
            ],
        )
        self.assertEqual(picture(desk), picture(other))
        before = picture(desk)
        self.assertEqual(desk.do_all(), [])
        self.assertEqual(desk.attempt(), [])
        self.assertEqual(picture(desk), before)

    def test_one_that_fails(self):
        good = ["letter x1", "claim k1 whole two", "undo", "names", "drop wave"]
        for line, wanted, attributes in FAILING:
            for place in range(len(good) + 1):
                self.check_failing(
                    desk_with("letter z", "undo"), good[:place] + [line] + good[place:], place, wanted, attributes,
                )
        for place in (0, 1, 2):
            self.check_failing(desk_with(), good[:place] + ["redo"] + good[place:], place, errors.NothingToRedo, {})
        self.check_failing(Desk(), ["letter t", "undo", "undo", "letter t"], 2, errors.NothingToUndo, {})

    def check_failing(self, desk, lines, place, wanted, attributes):
        before = picture(desk)
        for function in (desk.do_all, desk.attempt):
            error = failure(function, *lines)
            self.assertEqual(shape(error), (errors.CommandFailed, {"position": place}))
            self.assertEqual(shape(error.__cause__), (wanted, attributes))
            self.assertEqual(picture(desk), before)

    def test_the_first_one_that_fails(self):
        desk = desk_with()
        error = failure(desk.do_all, "letter x", "letter x", "foo")
        self.assertEqual((error.position, error.__cause__.__class__), (1, errors.NameTaken))

    def test_attempt(self):
        desk = desk_with("letter x", "undo", "claim k made t two three")
        desk.attach("k", STEPS)
        before = picture(desk)
        for lines in (
            ["letter y", "drop two", "states"], ["undo", "undo", "names"], ["forget k"], ["undo", "redo"],
            ["undo", "letter q"], ["names"],
        ):
            wanted = desk.copy().do_all(*lines)
            answers = desk.attempt(*lines)
            self.assertIs(type(answers), list)
            self.assertEqual(answers, wanted)
            self.assertEqual(picture(desk), before)


class Lines(unittest.TestCase):
    def test_again(self):
        desk = desk_with(
            "claim k made t two three", "drop three", "undo", "top two 1,1", "curve c two wave", "forget k",
        )
        lines = desk.lines()
        self.assertIs(type(lines), list)
        for given in (lines, tuple(lines)):
            for other in (Desk.again(given), Desk.again(lines=given)):
                self.assertIs(type(other), Desk)
                self.assertEqual(picture(other), picture(desk))
        lines.append("x")
        self.assertEqual(desk.lines(), lines[:-1])
        self.assertEqual(picture(Desk.again([])), picture(Desk()))
        self.assertEqual(picture(Desk.again(())), picture(Desk()))

    def test_no_lists(self):
        for value in (None, True, 0, "letter t", b"letter t", {}, {0: "letter t"}, LETTER, STRANGE, object(), Desk()):
            self.assertEqual(shape(failure(Desk.again, value)), (errors.InvalidLines, {"position": None}))

    def test_no_deeds(self):
        for bad in (
            None, True, 1, b"letter x", "", "foo", "undo", "redo", "names", "states", "show t", "letter", "letter x ",
            ["letter x"], LETTER, STRANGE,
        ):
            for place in (0, 1, 3):
                lines = ["letter a", "letter b", "letter c"]
                lines.insert(place, bad)
                self.assertEqual(shape(failure(Desk.again, lines)), (errors.InvalidLines, {"position": place}))
                # Before what fails, and the first one that is no deed.
                self.assertEqual(
                    shape(failure(Desk.again, ["letter a", "letter a"] + lines + ["names"])),
                    (errors.InvalidLines, {"position": place + 2}),
                )

    def test_what_fails(self):
        for lines, position, cause in [
            (["letter a", "letter a"], 1, errors.NameTaken), (["drop a"], 0, errors.UnknownName),
            (["letter a", "sum b a a", "over c a d"], 2, errors.UnknownName),
            (["letter a", "fraction b 1 -"], 1, errors.NoughtBottom),
            (["forget k"], 0, errors.UnknownLabel), (["letter a", "claim k whole a"], 1, errors.InvalidClaim),
            ([f"letter a{number}" for number in range(13)], 12, errors.TooMany),
        ]:
            error = failure(Desk.again, lines)
            self.assertEqual(shape(error), (errors.CommandFailed, {"position": position}))
            self.assertIs(error.__cause__.__class__, cause)

    def test_three_hundred(self):
        lines = [line for number in range(150) for line in ("letter x", "drop x")]
        desk = Desk.again(lines[:200])
        desk.do_all(*lines[200:])
        self.assertEqual(Desk.again(desk.lines()).lines(), lines)


class Copies(unittest.TestCase):
    def test_go_on_by_themselves(self):
        desk = desk_with("letter x", "letter y", "undo", "undo", "claim k made t two three", "letter z", "undo")
        desk.attach("k", STEPS)
        before = picture(desk)
        other = desk.copy()
        self.assertIs(type(other), Desk)
        self.assertIsNot(other, desk)
        self.assertEqual(picture(other), before)
        other.do_all("redo", "drop three", "letter q", "forget k")
        self.assertEqual(picture(desk), before)
        third = desk.copy()
        desk.do_all("drop two", "undo", "undo", "undo")
        self.assertEqual(picture(third), before)
        fourth = third.copy()
        third.do_all("forget k", "claim k kept t two")
        third.attach("k", (TWO, 1))
        self.assertIs(third.fits("k"), True)
        self.assertIs(fourth.fits("k"), True)
        self.assertEqual(picture(fourth), before)
        self.assertEqual(fourth.do("redo"), "letter z")


class Access(unittest.TestCase):
    def test_names(self):
        desk = desk_with("claim k whole two")
        self.assertEqual(desk.names, ["knot", "led", "num", "t", "three", "two", "wave"])
        self.assertEqual(desk.labels, ["k"])
        for name in desk.names:
            self.assertIs(name in desk, True)
        self.assertEqual(desk["two"], TWO)
        self.assertIs(type(desk["knot"]), Curve)
        self.assertEqual(desk["knot"], Curve(TWO, THREE))
        for value in (
            None, True, 0, "", "x", "k", "Two", "two ", b"two", ["two"], ("two",), {}, {"two": 1}, LETTER, Ratio(1),
            STRANGE, object(), slice(0, 1), -1,
        ):
            self.assertIs(value in desk, False)
            error = failure(desk.__getitem__, value)
            self.assertIs(error.__class__, errors.UnknownName)
            self.assertIs(error.value, value)

    def test_len(self):
        desk = Desk()
        self.assertEqual(len(desk), 0)
        for number, line in enumerate(KNOWN):
            desk.do(line)
            self.assertEqual(len(desk), number + 1)
            desk.do("names")
        desk.do("undo")
        self.assertEqual(len(desk), len(KNOWN) - 1)

    def test_call(self):
        desk, other = Desk(), Desk()
        for line in KNOWN + ["names", "show two", "undo", "redo"]:
            self.assertEqual(desk(line), other.do(command=line))
        self.assertEqual(desk(command="names"), other.do("names"))
        self.assertEqual(picture(desk), picture(other))


class Trials(unittest.TestCase):
    def setUp(self):
        self.desk = desk_with("letter x", "letter y", "undo", "undo", "claim k made t two three", "letter z", "undo")
        self.desk.attach("k", STEPS)
        self.before = picture(self.desk)

    def change(self, desk):
        desk.do_all("drop three", "forget k", "claim k kept t two", "letter q")
        desk.attach("k", (TWO, 1))

    def test_with(self):
        with Trial(self.desk) as held:
            self.assertIs(held, self.desk)
            self.change(held)
            self.assertNotEqual(picture(self.desk), self.before)
            self.assertIn("q", self.desk)
        self.assertEqual(picture(self.desk), self.before)
        with Trial(desk=self.desk):
            while len(self.desk):
                self.desk.do("undo")
        self.assertEqual(picture(self.desk), self.before)

    def test_an_error_leaves_it(self):
        for error in (ValueError("x"), errors.NotFull(), KeyError(1)):
            with self.assertRaises(error.__class__) as caught:
                with Trial(self.desk) as held:
                    self.change(held)
                    raise error
            self.assertIs(caught.exception, error)
            self.assertEqual(picture(self.desk), self.before)
        with self.assertRaises(errors.UnknownName):
            with Trial(self.desk) as held:
                held.do("letter q")
                held.do("drop nothing")
        self.assertEqual(picture(self.desk), self.before)

    def test_one_behind_another_and_within(self):
        trial = Trial(self.desk)
        for _ in range(2):
            with trial as held:
                self.change(held)
            self.assertEqual(picture(self.desk), self.before)
        self.desk.do("letter w")
        later = picture(self.desk)
        with trial:
            self.desk.do("drop w")
        self.assertEqual(picture(self.desk), later)
        with Trial(self.desk):
            self.change(self.desk)
            changed = picture(self.desk)
            with Trial(self.desk) as held:
                held.do_all("undo", "undo")
            self.assertEqual(picture(self.desk), changed)
        self.assertEqual(picture(self.desk), later)

    def test_copies_stay(self):
        with Trial(self.desk) as held:
            self.change(held)
            other = held.copy()
        self.assertIn("q", other)
        self.assertNotIn("q", self.desk)

    def test_tried(self):
        def action(desk):
            self.assertIs(desk, self.desk)
            self.change(desk)
            return desk.names

        self.assertEqual(tried(self.desk, action), sorted(["knot", "led", "num", "q", "t", "two", "wave"]))
        self.assertEqual(picture(self.desk), self.before)
        self.assertEqual(tried(action=lambda desk: desk("drop two"), desk=self.desk), "k gone")
        self.assertIsNone(tried(self.desk, self.change))
        self.assertEqual(picture(self.desk), self.before)

        def failing(desk):
            self.change(desk)
            raise errors.NotGroup()

        self.assertEqual(shape(failure(tried, self.desk, failing)), (errors.NotGroup, {}))
        self.assertEqual(picture(self.desk), self.before)


if __name__ == "__main__":
    unittest.main()
