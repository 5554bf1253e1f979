"""[95], [98]: names, commands, deeds, by their words alone."""

import unittest

from helpers import LETTER, STRANGE
from innerfractions.commands import is_command, is_deed, is_name
from innerfractions.ratios import Ratio

# Each command once, with the kinds of the words behind the first one: of names, or of others.
DEEDS = [
    ("fraction f 1,0,1/2 0,1", "n p p"), ("letter t", "n"), ("sum a b c", "n n n"), ("less a b c", "n n n"),
    ("times a b c", "n n n"), ("over a b c", "n n n"), ("put a b c", "n n n"), ("slope a b", "n n"),
    ("class a b", "n n"), ("outer a b c", "n n n"), ("undone a b", "n n"), ("power a b -3", "n n i"),
    ("joined a b c", "n n n"), ("met a b c d", "n n n n"), ("curve c f g", "n n n"), ("plain d c", "n n"),
    ("first a c", "n n"), ("second a c", "n n"), ("top f 1,2", "n p"), ("bottom f -", "n p"), ("drop f", "n"),
    ("forget k", "n"),
    ("claim k inner f g", "n w n n"), ("claim k apart f g", "n w n n"), ("claim k whole f", "n w n"),
    ("claim k halved f", "n w n"), ("claim k on c 1 -1/2", "n w n r r"), ("claim k off c 0 0", "n w n r r"),
    ("claim k same c d", "n w n n"), ("claim k unlike c d", "n w n n"),
]
QUESTIONS = [
    ("undo", ""), ("redo", ""), ("state k", "n"), ("states", ""), ("claimed k", "n"), ("names", ""), ("show f", "n"),
    ("degree f", "n"), ("worth f 1/2", "n l"), ("worth f beyond", "n l"), ("taken f -3", "n l"),
    ("order f", "n"), ("fixed f", "n"), ("inners f 2", "n c"), ("moves f", "n"), ("round f", "n"), ("point c 7", "n l"),
    ("equation c", "n"), ("same f g", "n n"),
]
# Words behind which from one to four names of fractions stand, with what stands ahead of these.
DOTTED = [
    ("oneof a", True), ("tells", False), ("claim k made f", True), ("claim k kept f", True), ("claim k one f", True),
    ("claim k notone f", True),
]
NO_NAMES = ["", "A", "1a", "aB", "a_b", "a-b", "a b", "a,b", "abcdefghi", "-", "1", "a.", "a/b", "a\n", " a", "a "]
NAMES = ["a", "z9", "abcdefgh", "a1234567", "beyond", "fraction", "undo", "claim", "made"]
NO_NUMBERS = [
    "", "+1", "01", "-0", "1/1", "1/0", "2/4", "0/2", "1/-2", "1.5", "1000000", "-1000000", "1/1000000", "1000000/3",
    "x", "--1", "1/2/3", "1/", "/2", "1,2", "-", "1e2", "-01", "00",
]
NUMBERS = ["0", "1", "-1", "999999", "-999999", "1/2", "-1/2", "999999/999998", "-1/999999", "123456/7"]
OTHER_WORDS = {
    "n": (NO_NAMES, NAMES),
    "p": (
        [word for word in NO_NUMBERS if word not in ("-", "1,2")] + [
            "1,", ",1", "1,,2", "1,-0", "1;2", "--", "-,1", "1,-", ",".join(["1"] * 26), "0,x", "beyond", "f",
            "1,1000000", "1,2/4",
        ],
        NUMBERS + ["-", "0,0", "1,0,0", "1/2,-3", ",".join(["0"] * 25)],
    ),
    "i": (NO_NUMBERS + ["1/2", "100", "-100", "999", "x", "beyond"], ["0", "1", "-1", "99", "-99", "20", "-21"]),
    "c": (NO_NUMBERS + ["1/2", "-1", "100", "x"], ["0", "1", "9", "10", "99"]),
    "r": (NO_NUMBERS + ["beyond", "f"], NUMBERS),
    "l": (NO_NUMBERS + ["Beyond", "f", "beyond,"], NUMBERS + ["beyond"]),
    "w": (["", "made?", "is", "Inner", "same ", "class", "1"], []),
}


class Commands(unittest.TestCase):
    def judge(self, value, command, deed):
        self.assertIs(is_command(value), command, value)
        self.assertIs(is_command(value=value), command)
        self.assertIs(is_deed(value), deed, value)
        self.assertIs(is_deed(value=value), deed)

    def test_each(self):
        for lines, deed in [(DEEDS, True), (QUESTIONS, False)]:
            for line, kinds in lines:
                self.assertEqual(len(line.split()) - 1, len(kinds.split()))
                self.judge(line, True, deed)

    def test_too_few_and_too_many_words(self):
        for lines in (DEEDS, QUESTIONS):
            for line, _ in lines:
                for more in (" a", " 1", " -", " beyond"):
                    self.judge(line + more, False, False)
                spoken = line.split(" ")
                for at in range(len(spoken)):
                    self.judge(" ".join(spoken[:at] + spoken[at + 1:]), False, False)

    def test_blanks_more(self):
        for lines in (DEEDS, QUESTIONS):
            for line, _ in lines:
                for other in (
                    line + " ", " " + line, line + "\n", "\n" + line,
                    line.replace(" ", "  ", 1) + ("" if " " in line else " "), line.upper(), line.capitalize(),
                    "\t" + line,
                ):
                    self.judge(other, False, False)
                for at in range(1, len(line)):
                    if line[at] == " ":
                        self.judge(line[:at] + " " + line[at:], False, False)
                        self.judge(line[:at] + "\n" + line[at + 1:], False, False)

    def test_words_of_each_kind(self):
        for lines, deed in [(DEEDS, True), (QUESTIONS, False)]:
            for line, kinds in lines:
                spoken = line.split(" ")
                for at, kind in enumerate(kinds.split()):
                    wrong, right = OTHER_WORDS[kind]
                    for word in wrong:
                        self.judge(" ".join(spoken[:at + 1] + [word] + spoken[at + 2:]), False, False)
                    for word in right:
                        self.judge(" ".join(spoken[:at + 1] + [word] + spoken[at + 2:]), True, deed)

    def test_one_to_four(self):
        for line, deed in DOTTED:
            for many in range(7):
                good = 1 <= many <= 4
                self.judge(line + " g" * many, good, good and deed)
            for word in NO_NAMES:
                if word == "a b":
                    continue
                self.judge(f"{line} g {word}", False, False)
                self.judge(f"{line} {word} g", False, False)
            self.judge(line + " g g", True, deed)

    def test_no_words_of_the_tables(self):
        for line in (
            "", " ", "foo", "foo a", "made f g", "claim", "claim k", "claim k is f", "kept f g", "on c 1 1", "Undo",
            "undo undo", "lines", "copy", "attach k", "fits k", "state", "inner f g", "1", "-",
        ):
            self.judge(line, False, False)

    def test_any_value(self):
        for value in (
            None, True, False, 0, 1, Ratio(1), b"undo", b"letter t", ["letter t"], ("letter t",), ["letter", "t"], {},
            LETTER, STRANGE, object(), str,
        ):
            self.judge(value, False, False)
            self.assertIs(is_name(value), False)

    def test_names(self):
        for word in NO_NAMES:
            self.assertIs(is_name(word), False, word)
            self.assertIs(is_name(value=word), False)
        for word in NAMES:
            self.assertIs(is_name(word), True, word)
        for sign in "abcdefghijklmnopqrstuvwxyz":
            self.assertIs(is_name(sign), True)
            self.assertIs(is_name(sign.upper()), False)
            self.assertIs(is_name("a" + sign.upper()), False)
        for sign in "0123456789":
            self.assertIs(is_name(sign), False)
            self.assertIs(is_name("a" + sign), True)
        for sign in " !\"#$&'()*+,-./:;<=>?@[\\]^_`{|}~\n":
            self.assertIs(is_name("a" + sign), False)
            self.assertIs(is_name(sign), False)


if __name__ == "__main__":
    unittest.main()
