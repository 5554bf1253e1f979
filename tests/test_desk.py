"""[95], [97], [98]: the deeds of a desk, what they make, their answers and errors."""

import unittest

from desks import KNOWN, desk_with, failure, picture, shape
from helpers import LETTER, STRANGE
from innerfractions import errors
from innerfractions.classes import class_of
from innerfractions.curves import Curve
from innerfractions.desk import Desk
from innerfractions.equations import equation
from innerfractions.fractions import Fraction, letter, put, slope
from innerfractions.halves import inner_ones
from innerfractions.lattices import joined, met
from innerfractions.moves import power, undone
from innerfractions.ones import the_one
from innerfractions.outer import outer
from innerfractions.own import own_moves
from innerfractions.ratios import Ratio

TWO, THREE, WAVE = Fraction([0, 0, 1]), Fraction([0, 0, 0, 1]), Fraction([1, 0, 1], [0, 1])
NUM, LED = Fraction([Ratio(2, 3)]), Fraction([1, 2], [3, 4])
KNOT = Curve(TWO, THREE)
NO_COMMANDS = [
    None, True, 0, 1, b"letter x", "", " ", "letter", "letter x ", "foo", "letter X", "sum x t", "claim k is t",
    ["letter x"], ("letter x",), {}, LETTER, STRANGE, object(), Ratio(1),
]


def high(many):
    """The POLY of the letter to this power."""
    return ",".join(["0"] * many + ["1"])


class Checks(unittest.TestCase):
    def fails(self, desk, line, wanted, **attributes):
        """The command raises just this error, and nothing is changed."""
        before = picture(desk)
        for function in (desk.do, desk, desk.copy().do):
            error = failure(function, line)
            self.assertEqual(shape(error), (wanted, attributes), line)
        self.assertEqual(picture(desk), before)


class Deeds(Checks):
    def test_what_is_kept(self):
        for line, wanted in [
            ("fraction x 1,0,1/2 0,-2", Fraction([1, 0, Ratio(1, 2)], [0, -2])), ("fraction x - 1", Fraction([])),
            ("fraction x 1,1,0 1,1", Fraction([1])), ("letter x", letter()),
            ("sum x two wave", TWO + WAVE), ("sum x two two", TWO + TWO), ("less x two wave", TWO - WAVE),
            ("less x two two", Fraction([])), ("times x wave wave", WAVE * WAVE), ("over x two wave", TWO.over(WAVE)),
            ("over x num two", NUM.over(TWO)),
            ("put x two wave", put(TWO, WAVE)), ("put x wave two", put(WAVE, TWO)),
            ("put x two num", Fraction([Ratio(4, 9)])), ("slope x wave", slope(WAVE)), ("slope x num", Fraction([])),
            ("class x led", letter()), ("class x wave", class_of(WAVE)),
            ("outer x two t", TWO), ("outer x two led", outer(TWO, LED)), ("undone x led", undone(LED)),
            ("power x led -3", power(LED, -3)), ("power x led 0", letter()), ("power x led 20", power(LED, 20)),
            ("joined x two three", joined(TWO, THREE)),
            ("joined x wave wave", class_of(WAVE)), ("met x two t two", met(TWO, letter(), TWO)),
            ("met x wave t led", letter()), ("oneof x two", TWO),
            ("oneof x two three wave led", the_one([TWO, THREE, WAVE, LED])), ("oneof x two two", TWO),
            ("curve x two three", KNOT), ("curve x num wave", Curve(NUM, WAVE)), ("plain x knot", KNOT),
            ("first x knot", TWO), ("second x knot", THREE),
        ]:
            desk = desk_with()
            self.assertEqual(desk.do(line), "-", line)
            self.assertEqual(desk["x"], wanted, line)
            self.assertIs(type(desk["x"]), type(wanted))
            self.assertEqual(desk.names, sorted([one.split()[1] for one in KNOWN] + ["x"]))
            self.assertEqual(desk.lines(), KNOWN + [line])
            self.assertEqual(len(desk), len(KNOWN) + 1)
        desk = desk_with("curve c two two", "plain d c")
        self.assertEqual(desk["d"], Curve(letter(), letter()))

    def test_top_and_bottom(self):
        desk = desk_with("fraction x 1,2 3,1")
        for line, wanted in [
            ("top x 0,0,1", Fraction([0, 0, 1], [3, 1])), ("bottom x 1,1", Fraction([0, 0, 1], [1, 1])),
            ("top x -", Fraction([])), ("bottom x 5,5", Fraction([])), ("top x 2", Fraction([2])),
            ("bottom x 4,2", Fraction([1], [2, 1])),
            # The other one is as it is told: the bottom with the head 1.
            ("top x 6,3", Fraction([3])), ("bottom x 1/2", Fraction([6])),
        ]:
            self.assertEqual(desk.do(line), "-")
            self.assertEqual(desk["x"], wanted, line)
        desk.do("fraction y 2 2,4")
        desk.do("top y 1")
        self.assertEqual(desk["y"], Fraction([1], [Ratio(1, 2), 1]))

    def test_drop_and_forget(self):
        desk = desk_with("claim k whole two", "claim l inner two t")
        self.assertEqual(desk.do("drop three"), "-")
        self.assertNotIn("three", desk)
        self.assertEqual(desk.do("forget k"), "-")
        self.assertEqual(desk.labels, ["l"])
        self.assertEqual(desk.do("drop knot"), "-")
        self.assertEqual(desk.do("letter knot"), "-")
        self.assertEqual(desk["knot"], letter())

    def test_what_is_kept_does_not_hang_on_other_names(self):
        desk = desk_with("sum x two three", "top two 1", "drop three")
        self.assertEqual(desk["x"], TWO + THREE)
        self.assertEqual(desk["knot"], KNOT)

    def test_errors_of_what_makes_them(self):
        desk = desk_with(
            "drop knot", "drop wave", "fraction nil - 1", f"fraction h {high(24)} 1", f"fraction deep 1 {high(20)}",
            f"fraction pole 1 -2/3,1", f"fraction nine {high(9)} 1", f"fraction eight {high(8)} 1",
        )
        for line, wanted, attributes in [
            ("fraction x 1 -", errors.NoughtBottom, {}), ("fraction x 1 0,0", errors.NoughtBottom, {}),
            ("fraction x - -", errors.NoughtBottom, {}), ("sum x deep pole", None, {}),
            ("times x h t", errors.TooMany, {"what": "degree", "limit": 24}),
            ("sum x deep h", errors.TooMany, {"what": "degree", "limit": 24}),
            ("less x deep h", errors.TooMany, {"what": "degree", "limit": 24}),
            ("over x two nil", errors.DividedByZero, {}),
            ("over x h deep", errors.TooMany, {"what": "degree", "limit": 24}),
            ("put x pole num", errors.Beyond, {}), ("put x h two", errors.TooMany, {"what": "degree", "limit": 24}),
            ("slope x deep", None, {}), ("class x num", errors.NotFull, {}), ("class x nil", errors.NotFull, {}),
            ("outer x num two", errors.NotFull, {}), ("outer x two num", errors.NotFull, {}),
            ("outer x two three", errors.NotInner, {}),
            ("outer x h two", errors.TooMany, {"what": "degree", "limit": 12}),
            ("outer x two h", errors.TooMany, {"what": "degree", "limit": 12}),
            ("undone x two", errors.InvalidMove, {"value": TWO}), ("undone x num", errors.InvalidMove, {"value": NUM}),
            ("power x two 99", errors.InvalidMove, {"value": TWO}),
            ("power x led 21", errors.InvalidPower, {"value": 21}),
            ("power x led -99", errors.InvalidPower, {"value": -99}), ("joined x two num", errors.NotFull, {}),
            ("joined x nine two", errors.TooMany, {"what": "degree", "limit": 8}),
            ("met x two num t", errors.NotFull, {}), ("met x two three t", errors.NotInner, {}),
            ("met x two t three", errors.NotInner, {}),
            ("met x h two three", errors.TooMany, {"what": "degree", "limit": 6}),
            ("oneof x num", errors.InvalidFractions, {"value": [NUM]}),
            ("oneof x two h", errors.InvalidFractions, {"value": [TWO, Fraction([0] * 24 + [1])]}),
            ("curve x num nil", errors.NumbersAlone, {}),
            ("curve x nine t", errors.TooMany, {"what": "degree", "limit": 8}),
            ("curve x num nine", errors.TooMany, {"what": "degree", "limit": 8}), ("curve x eight eight", None, {}),
            ("top two -", None, {}),
            ("bottom two -", errors.NoughtBottom, {}), ("bottom two 0", errors.NoughtBottom, {}),
            ("bottom num -", errors.NoughtBottom, {}),
        ]:
            if wanted is None:
                desk.copy().do(line)
            else:
                self.fails(desk, line, wanted, **attributes)


class Questions(Checks):
    def test_answers(self):
        desk = desk_with(
            "fraction nil - 1", "fraction both 1,0,0,0,1 0,0,1", "fraction third 1 1,-1", "curve upright num wave",
            "curve same two three", "claim k whole two", "claim a on knot 1/2 -3", "claim b kept two three t",
        )
        for line, wanted in [
            ("names", "both knot led nil num same t third three two upright wave"),
            ("states", "a false, b false, k true"), ("state k", "true"), ("state a", "false"),
            ("claimed a", "on knot 1/2 -3"), ("claimed b", "kept two three t"), ("claimed k", "whole two"),
            ("show two", "0,0,1 1"), ("show nil", "- 1"), ("show num", "2/3 1"), ("show led", "1/4,1/2 3/4,1"),
            ("show knot", "0,0,1 1; 0,0,0,1 1"), ("show upright", "2/3 1; 1,0,1 0,1"), ("show wave", "1,0,1 0,1"),
            ("degree two", "2"), ("degree nil", "0"),
            ("degree both", "4"), ("degree knot", "1"), ("degree upright", "2"), ("worth two -3/2", "9/4"),
            ("worth wave 0", "beyond"), ("worth wave beyond", "beyond"), ("worth num beyond", "2/3"),
            ("worth nil 5", "0"), ("worth led beyond", "1/2"),
            ("taken two 0", "2"), ("taken two 1", "1"), ("taken three beyond", "3"), ("order t", "1"),
            ("order third", "3"), ("order led", "none"), ("fixed third", "-"), ("fixed t", "all"), ("fixed led", "-"),
            ("inners both 2", "-1,0,1 0,1; 0,0,1 1; 1,0,1 0,1"),
            ("inners both 3", "-"), ("inners both 4", "1,0,0,0,1 0,0,1"), ("inners both 1", "0,1 1"),
            ("moves both", "0,-1 1; -1 0,1; 0,1 1; 1 0,1"), ("moves three", "0,1 1"), ("round both", "yes"),
            ("round three", "no"), ("round led", "yes"),
            ("tells two", "no"), ("tells two three", "yes"), ("tells both wave wave both", "no"),
            ("tells both wave two both", "yes"), ("tells led", "yes"), ("point knot 2", "4 8"),
            ("point knot beyond", "beyond beyond"), ("point upright 0", "2/3 beyond"), ("point upright 2", "2/3 5/2"),
            ("equation knot", "0,0,-1 0,0,0 0,0,0 1,0,0"), ("equation upright", "-2/3 1"), ("same two two", "yes"),
            ("same two three", "no"), ("same knot same", "yes"), ("same knot upright", "no"), ("same t third", "no"),
        ]:
            before = picture(desk)
            if line.startswith("moves both"):
                self.assertEqual(sorted(desk.do(line).split("; ")), sorted(wanted.split("; ")))
                wanted = desk.do(line)
            self.assertEqual(desk.do(line), wanted, line)
            self.assertEqual(desk(line), wanted)
            self.assertEqual(desk.do(command=line), wanted)
            self.assertEqual(picture(desk), before)
        self.assertEqual(desk.do("moves both"), "; ".join(told(one) for one in own_moves(desk["both"])))
        self.assertEqual(desk.do("inners both 2"), "; ".join(told(one) for one in inner_ones(desk["both"], 2)))
        self.assertEqual(
            desk.do("equation upright"),
            " ".join(",".join(str(number) for number in row) for row in equation(desk["upright"])),
        )

    def test_fixed(self):
        desk = desk_with("fraction shift -1,3 1", "fraction turn 1 0,1", "fraction more 1,1 1")
        self.assertEqual(
            [desk.do("fixed " + name) for name in ("shift", "turn", "more")], ["1/2 beyond", "-1 1", "beyond"],
        )

    def test_of_nothing(self):
        desk = Desk()
        self.assertEqual([desk.do(line) for line in ("names", "states")], ["-", "-"])
        self.assertEqual((desk.names, desk.labels, len(desk), desk.lines()), ([], [], 0, []))

    def test_errors_of_what_tells_them(self):
        desk = desk_with(
            "fraction nil - 1", f"fraction five {high(5)} 1", f"fraction nine {high(9)} 1", "curve c five two",
            "fraction seven 1,0,0,0,0,0,0,1 1",
        )
        for line, wanted, attributes in [
            ("taken num 1", errors.NotFull, {}), ("taken nil beyond", errors.NotFull, {}),
            ("order two", errors.InvalidMove, {"value": TWO}), ("order num", errors.InvalidMove, {"value": NUM}),
            ("fixed two", errors.InvalidMove, {"value": TWO}),
            ("inners two 0", errors.InvalidMany, {"value": 0}), ("inners num 9", errors.InvalidMany, {"value": 9}),
            ("inners num 8", errors.NotFull, {}), ("inners seven 2", errors.TooMany, {"what": "degree", "limit": 6}),
            ("moves nil", errors.NotFull, {}),
            ("moves nine", errors.TooMany, {"what": "degree", "limit": 8}), ("round num", errors.NotFull, {}),
            ("round nine", errors.TooMany, {"what": "degree", "limit": 8}),
            ("tells two num", errors.InvalidFractions, {"value": [TWO, NUM]}),
            ("tells nine", errors.InvalidFractions, {"value": [Fraction([0] * 9 + [1])]}),
            ("equation c", errors.TooMany, {"what": "degree", "limit": 4}),
        ]:
            self.fails(desk, line, wanted, **attributes)
        self.assertEqual(desk.do("inners seven 7"), "1,0,0,0,0,0,0,1 1".replace("1,0,0,0,0,0,0,1", "0,0,0,0,0,0,0,1"))

    def test_great_numbers(self):
        desk = desk_with(
            "fraction x 999998/7,999998/11 1",
            *[f"times {after} {before} {before}" for before, after in (("x", "y"), ("y", "z"))],
        )
        self.assertEqual(desk.do("show z"), told(desk["z"]))
        self.assertEqual(desk.do("worth z 999999/2"), str(put(desk["z"], Fraction([Ratio(999999, 2)])).upper()[0]))


def told(fraction):
    """Top and bottom as answers tell them."""
    return " ".join(",".join(str(number) for number in poly) or "-" for poly in (fraction.upper(), fraction.lower()))


class Sequence(Checks):
    """The errors of do in the sequence that the interface tells."""

    def test_commands(self):
        desk = desk_with("undo")
        before = picture(desk)
        for line in NO_COMMANDS:
            for function in (desk.do, desk):
                error = failure(function, line)
                self.assertIs(error.__class__, errors.InvalidCommand)
                self.assertIs(error.value, line)
        self.assertEqual(picture(desk), before)

    def test_taken(self):
        desk = desk_with("claim k whole two")
        for line in (
            "fraction two 1 -", "letter two", "sum two none none", "less knot x y", "times two knot knot",
            "over two x y", "put two x y", "slope two x", "class two x", "outer two x y", "undone two x",
            "power two x 99", "joined two x y", "met two x y z",
            "oneof two x", "curve two x y", "plain two two", "first two two", "second two x",
        ):
            self.fails(desk, line, errors.NameTaken, name=line.split()[1])
        for line in ("claim k whole x", "claim k made two x", "claim k on two 1 1", "claim k same x y"):
            self.fails(desk, line, errors.LabelTaken, label="k")
        # A label may be a name, too.
        self.assertEqual(desk.do("letter k"), "-")
        self.assertEqual(desk.do("claim two whole two"), "two true")

    def test_unknown(self):
        desk = desk_with("claim k whole two")
        for line, name in [
            ("sum x a b", "a"), ("sum x two b", "b"), ("sum x x two", "x"), ("sum x knot b", "knot"),
            ("less x two knot", "knot"), ("times x b two", "b"), ("over x two k", "k"), ("put x two b", "b"),
            ("slope x knot", "knot"), ("class x b", "b"), ("outer x two knot", "knot"),
            ("undone x knot", "knot"), ("power x b 99", "b"), ("joined x b c", "b"), ("met x two b knot", "b"),
            ("met x two two knot", "knot"), ("oneof x two three b", "b"), ("oneof x two knot b two", "knot"),
            ("curve x two knot", "knot"), ("plain x two", "two"),
            ("first x two", "two"), ("second x b", "b"), ("top knot 1", "knot"), ("bottom b -", "b"), ("drop b", "b"),
            ("claim l made two b", "b"), ("claim l made b two", "b"), ("claim l kept two two knot b", "knot"),
            ("claim l inner two knot", "knot"),
            ("claim l apart b two", "b"), ("claim l one two two two b", "b"), ("claim l notone knot two", "knot"),
            ("claim l whole knot", "knot"), ("claim l halved b", "b"), ("claim l on two 1 1", "two"),
            ("claim l off b 1 1", "b"), ("claim l same two knot", "two"),
            ("claim l same knot two", "two"), ("claim l unlike knot b", "b"), ("show b", "b"), ("degree k", "k"),
            ("worth knot 1", "knot"), ("taken b beyond", "b"), ("order knot", "knot"), ("fixed b", "b"),
            ("inners knot 0", "knot"), ("moves b", "b"), ("round knot", "knot"),
            ("tells two knot", "knot"), ("tells b", "b"), ("point two 1", "two"), ("equation b", "b"),
            ("same b two", "b"), ("same two b", "b"), ("same two knot", "knot"), ("same knot two", "two"),
            ("same knot knot2", "knot2"),
        ]:
            self.fails(desk, line, errors.UnknownName, value=name)
        for line in ("forget l", "state l", "claimed l", "forget two", "state two"):
            self.fails(desk, line, errors.UnknownLabel, value=line.split()[1])

    def test_nothing_to_take_back(self):
        desk = Desk()
        self.fails(desk, "undo", errors.NothingToUndo)
        self.fails(desk, "redo", errors.NothingToRedo)
        desk.do("letter t")
        self.fails(desk, "redo", errors.NothingToRedo)
        desk.do("undo")
        self.fails(desk, "undo", errors.NothingToUndo)
        self.assertEqual(desk.do("redo"), "letter t")
        self.fails(desk, "redo", errors.NothingToRedo)

    def test_no_claims(self):
        desk = desk_with(f"fraction nine {high(9)} 1", f"fraction far {high(13)} 1", "fraction nil - 1")
        nine, far, nil = desk["nine"], desk["far"], desk["nil"]
        for line, claim in [
            ("claim k made nine two", ("made", [TWO], nine)), ("claim k made two nine", ("made", [nine], TWO)),
            ("claim k kept two three num", ("kept", [THREE, NUM], TWO)), ("claim k inner far two", ("inner", far, TWO)),
            ("claim k apart two nil", ("apart", TWO, nil)),
            ("claim k one num two", ("one", [TWO], NUM)),
            ("claim k notone two nine nine", ("notone", [nine, nine], TWO)), ("claim k whole t", ("whole", letter())),
            ("claim k halved nine", ("halved", nine)),
        ]:
            self.fails(desk, line, errors.InvalidClaim, value=claim)
            # Before all bounds of numbers of labels.
            full = desk.copy()
            full.do_all(*[f"claim a{number} whole two" for number in range(12)])
            self.fails(full, line, errors.InvalidClaim, value=claim)
        self.assertEqual(desk.do("claim k made nil two"), "k true")

    def test_twelve_names(self):
        desk = Desk()
        for number in range(12):
            self.assertEqual(desk.do(f"letter t{number}"), "-")
        self.assertEqual(len(desk.names), 12)
        for line in ("letter x", "fraction x 1 1", "curve x t1 t2", "sum x t1 t1", "oneof x t1 t2 t3 t4"):
            self.fails(desk, line, errors.TooMany, what="names", limit=12)
        # What makes it is looked at first.
        self.fails(desk, "fraction x 1 -", errors.NoughtBottom)
        self.fails(desk, "letter t3", errors.NameTaken, name="t3")
        self.fails(desk, "sum x x x", errors.UnknownName, value="x")
        self.assertEqual(
            desk.do_all("top t1 5", "claim k inner t2 t3", "drop t4", "letter x"), ["-", "k true", "-", "-"],
        )
        self.fails(desk, "letter y", errors.TooMany, what="names", limit=12)

    def test_twelve_labels(self):
        desk = desk_with(*[f"claim k{number} whole two" for number in range(12)])
        self.assertEqual(len(desk.labels), 12)
        for line in ("claim l whole two", "claim l made t t", "claim l on knot 1 1"):
            self.fails(desk, line, errors.TooMany, what="labels", limit=12)
        self.fails(desk, "claim k3 whole two", errors.LabelTaken, label="k3")
        self.assertEqual(desk.do_all("forget k3", "claim l whole two"), ["-", "l true"])
        self.fails(desk, "claim k3 whole two", errors.TooMany, what="labels", limit=12)

    def test_three_hundred_deeds(self):
        lines = [line for number in range(150) for line in ("letter x", "drop x")]
        desk = Desk.again(lines[:150])
        desk.do_all(*lines[150:])
        self.assertEqual((len(desk), desk.lines()), (300, lines))
        self.fails(desk, "letter x", errors.TooMany, what="deeds", limit=300)
        self.fails(desk, "fraction x 1 -", errors.NoughtBottom)
        self.fails(desk, "drop x", errors.UnknownName, value="x")
        self.assertEqual(desk.do("names"), "-")
        self.assertEqual(desk.do("undo"), "drop x")
        self.assertEqual(desk.do("redo"), "drop x")
        self.fails(desk, "letter y", errors.TooMany, what="deeds", limit=300)
        self.assertEqual(
            desk.do_all("undo", "undo", "letter x", "claim k inner x x"), ["drop x", "letter x", "-", "k true"],
        )
        self.fails(desk, "forget k", errors.TooMany, what="deeds", limit=300)

    def test_names_before_labels_before_deeds(self):
        lines = [line for number in range(138) for line in ("letter x", "drop x")]
        desk = Desk.again(lines[:200])
        desk.do_all(
            *lines[200:], "fraction t0 0,0,1 1", *[f"letter t{number}" for number in range(1, 12)],
            *[f"claim k{number} whole t0" for number in range(12)]
        )
        self.assertEqual(len(desk), 300)
        self.fails(desk, "letter x", errors.TooMany, what="names", limit=12)
        self.fails(desk, "claim l whole t0", errors.TooMany, what="labels", limit=12)
        self.fails(desk, "drop t1", errors.TooMany, what="deeds", limit=300)
        self.fails(desk, "top t1 -", errors.TooMany, what="deeds", limit=300)
        self.fails(desk, "forget k1", errors.TooMany, what="deeds", limit=300)
        self.assertEqual(desk.do("states"), ", ".join(f"k{number} true" for number in sorted(range(12), key=str)))


if __name__ == "__main__":
    unittest.main()
