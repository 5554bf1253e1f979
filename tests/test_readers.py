"""[92]: values read from their written forms, and wrong lines."""

import unittest
from fractions import Fraction as Exact

from helpers import LETTER, STRANGE, check_call, check_raises, drawing, ratio
from innerfractions.errors import InvalidText, NoughtBottom
from innerfractions.fractions import Fraction
from innerfractions.readers import read
from innerfractions.texts import is_of_sort, written
from test_texts import KNOWN, SORTS, draw_value

# What is lacking behind any lines that some written form has.
REST = ["", "bottom 1\n", "row 0\n", "step 0 0\nover 0\nunder 0\n", "over 0\nunder 0\n", "under 0\n"]


def numbers_of(words):
    return [ratio(Exact(word)) for word in words]


def value_of(lines):
    """The sort and the value that lines could mean, in the loosest way."""
    rows = [line.split() for line in lines]
    head = rows[0][0]
    if head == "place":
        return head, rows[0][1] if rows[0][1] == "beyond" else numbers_of(rows[0][1:])[0]
    if head == "top":
        return "fraction", Fraction(numbers_of(rows[0][1:]), numbers_of(rows[1][1:]))
    if head == "grid":
        return head, [numbers_of(row[1:]) for row in rows[1:]]
    if head == "steps":
        steps = []
        for row in rows[1:]:
            if row[0] == "step":
                steps.append((int(row[1]), int(row[2]), [], []))
            else:
                steps[-1][2 if row[0] == "over" else 3].append(numbers_of(row[1:]))
        return head, steps
    return head, numbers_of(rows[0][1:])


def is_written(text):
    """Whether it is the written form of something: of what it could mean it is just this."""
    if not text.endswith("\n"):
        return False
    try:
        sort, value = value_of(text[:-1].split("\n"))
        return sort in SORTS and is_of_sort(sort, value) and written(sort, value) == text
    except (ValueError, IndexError, ZeroDivisionError, NoughtBottom):
        return False


def wrong_line(text):
    """[92], by its words; None of a written form."""
    pieces = text.split("\n")
    for many in range(1, len(pieces)):
        ahead = "".join(piece + "\n" for piece in pieces[:many])
        if not any(is_written(ahead + rest) for rest in REST):
            return many
    return None if is_written(text) else len(pieces)


class Readers(unittest.TestCase):
    def check(self, text, line):
        self.assertEqual(wrong_line(text), line, text)
        if line is None:
            sort, value = read(text)
            self.assertEqual(written(sort, value), text)
        else:
            check_raises(self, InvalidText, {"line": line}, read, text)
            check_raises(self, InvalidText, {"line": line}, read, text=text)

    def test_written_ones(self):
        for _, _, text in KNOWN:
            self.check(text, None)

    def test_first_lines(self):
        for text in (
            "\n", " \n", "places 1\n", "Place 1\n", "place\n", "place 1 2\n", "place  1\n", " place 1\n", "place 1 \n",
            "place 01\n", "place -0\n", "place +1\n", "place 1/1\n", "place 1/0\n",
            "place 2/4\n", "place 0/3\n", "place 1/-2\n", "place -1/-2\n", "place 1/\n", "place /2\n", "place 1/02\n",
            "place 1/2/3\n", "place 1.5\n", "place Beyond\n", "place beyond 1\n",
            "place 1e3\n", "place -\n", "place --1\n", "place 1,2\n", "place -3/1\n", "place 1_0\n", "poly 0\n",
            "poly 1 0\n", "poly 1 2/4\n", "poly 1 -0 1\n", "poly 00 1\n", "poly  1\n", "poly 1  2\n", "poly \n",
            "poly 1 x\n", "poly beyond\n", "poly" + " 1" * 26 + "\n", "form\n", "form 0\n", "form 0 0\n", "form 2\n",
            "form 1 2\n", "form 1 2 0\n", "form -1\n", "form 0 -1 0\n", "form" + " 0" * 25 + " 1\n",
            "form 1" + " 0" * 25 + "\n", "numbers\n", "numbers 1/1\n", "numbers 1 \n", "numbers" + " 1" * 41 + "\n",
            "numbers beyond\n", "top 0\n", "top 1 0\n", "top 2/4\n", "top" + " 1" * 26 + "\n", "top \n",
            "bottom 1\n", "row 1\n", "over 1\n", "under 1\n", "step 0 0\n", "grid 1\n", "grid \n", " grid\n",
            "steps 0\n", "steps \n", "steps0\n", "fraction 1\n", "grids\n", "1\n", "beyond\n", "top1\n",
        ):
            self.check(text, 1)
            self.check(text + "place 1\n", 1)
            self.check(text + text, 1)

    def test_without_the_last_line_feed(self):
        for _, _, text in KNOWN:
            self.check(text[:-1], text.count("\n"))
        for text, line in [
            ("place", 1), ("grid", 1), ("steps", 1), ("top 1", 1), ("grid\nrow", 2), ("steps\nstep 0 0", 2),
            ("top 1\nbottom", 2), ("place 1\nx", 2), ("grid\nrow 1\n ", 3),
        ]:
            self.check(text, line)

    def test_only_lines_lack(self):
        for text, line in [
            ("", 1), ("grid\n", 2), ("steps\n", 2), ("top 1\n", 2), ("top\n", 2), ("steps\nstep 0 0\n", 3),
            ("steps\nstep 0 0\nover 1\n", 4), ("steps\nstep 0 0\nover 1\nover 1\n", 5),
            ("steps\nstep 0 0\nover 1\nunder 1\nstep 0 0\n", 6),
            ("steps\nstep 0 0\nover 1\nunder 1\nstep 4 4\nover 1 2\n", 7),
        ]:
            self.check(text, line)

    def test_behind_what_is_done(self):
        for sort, value, text in KNOWN:
            many = text.count("\n")
            for more in ("\n", " \n", "x\n", "place 1\n", "bottom 1\n", "grid\n", "x"):
                if not (sort in ("grid", "steps") and more in ("row 1\n",)):
                    self.check(text + more, many + 1)
            if sort not in ("grid", "steps"):
                for more in ("row 0\n", "under 1\n", "over 1\n", "step 0 0\n", text):
                    self.check(text + more, many + 1)

    def test_fractions(self):
        for text, line in [
            ("top 0 1\nbottom 0 1\n", 2), ("top 1 1\nbottom 1 1\n", 2), ("top -1 0 1\nbottom 1 1\n", 2),
            ("top 1\nbottom 2\n", 2), ("top 1\nbottom\n", 2), ("top 1\nbottom 0\n", 2), ("top 1\nbottom 1 0\n", 2),
            ("top\nbottom 1 1\n", 2), ("top\nbottom 2\n", 2), ("top\nbottom 0 1\n", 2), ("top\nbottom 1\n", None),
            ("top 1\nbottom 1 1\n", None), ("top 1\nbottom" + " 1" * 26 + "\n", 2),
            ("top 1\nbottom" + " 1" * 25 + "\n", None),
            ("top 1\ntop 1\n", 2), ("top 1\n\n", 2), ("top 1\nbottom 1 -1\n", 2), ("top 1\nbottom -1\n", 2),
            ("top 1\nbottom 1/2 1\n", None), ("top 1\nbottom 1/2\n", 2), ("top 1\nbottom  1\n", 2),
            ("top 1\nbottom 1\nbottom 1\n", 3),
            ("top 1 0\nbottom 2\n", 1), ("top 1\n bottom 1\n", 2), ("top 0 2\nbottom 1 0 1\n", None),
            ("top 1\nbottom 1 1\n\n", 3),
        ]:
            self.check(text, line)

    def test_grids(self):
        nine = "row 1 2\n" * 9
        for text, line in [
            ("grid\nrow\n", 2), ("grid\nrow 1\nrow 1 2\n", 3), ("grid\nrow 1 2\nrow 1\n", 3), ("grid\n" + nine, None),
            ("grid\n" + nine + "row 1 2\n", 11), ("grid\nrow" + " 0" * 9 + "\n", None),
            ("grid\nrow" + " 0" * 10 + "\n", 2),
            ("grid\nrow 1\n\nrow 1\n", 3), ("grid\nrow 1\nover 1\n", 3), ("grid\nover 1\n", 2), ("grid\nrow 2/4\n", 2),
            ("grid\nrow 1\nrow -0\n", 3), ("grid\nrow 0 0\nrow 0 0\n", None), ("grid\nrow 1\nrow\n", 3),
            ("grid\ngrid\n", 2),
            ("grid\nrow 1 \n", 2), ("grid\nrow  1\n", 2), ("grid\nrow 1\nRow 1\n", 3),
        ]:
            self.check(text, line)

    def test_steps(self):
        one = "step 3 0\nover 1\nunder 1\n"
        for text, line in [
            ("steps\nover 1\n", 2), ("steps\nstep 0\n", 2), ("steps\nstep 0 0 0\n", 2), ("steps\nstep 4 0\n", 2),
            ("steps\nstep 0 4\n", 2), ("steps\nstep 03 0\n", 2), ("steps\nstep -1 0\n", 2), ("steps\nstep 1/2 0\n", 2),
            ("steps\nstep 0 \n", 2),
            ("steps\nstep  0 0\n", 2), ("steps\nstep 3 3\nunder 1\n", 3), ("steps\nstep 0 0\nover\n", 3),
            ("steps\nstep 0 0\nover 1\nover 1 2\n", 4), ("steps\nstep 0 0\nover 1\nunder\n", 4),
            ("steps\nstep 0 0\nover 1\nunder 1\nover 1\n", 5),
            ("steps\nstep 0 0\nover 1\nunder 1 2\nunder 1\n", 5),
            ("steps\n" + one + "step 4 4\nover 1\nunder 1\n", None), ("steps\n" + one + "step 5 0\n", 5),
            ("steps\n" + one * 6, None), ("steps\n" + one * 7, 20),
            ("steps\n" + one * 5 + "step 8 8\nover 1\nunder 1\n", None),
            ("steps\n" + one * 5 + "step 9 8\nover 1\nunder 1\n", 17),
            ("steps\nstep 0 0\n" + "over 1\n" * 9 + "under 1\n", None),
            ("steps\nstep 0 0\n" + "over 1\n" * 10 + "under 1\n", 12),
            ("steps\nstep 0 0\nover 1\n" + "under 1\n" * 10, 13), ("steps\nstep 0 0\nover" + " 1" * 10 + "\n", 3),
            ("steps\nstep 0 0\nstep 0 0\n", 3), ("steps\nstep 0 0\nover 1\nstep 0 0\n", 4), ("steps\nsteps\n", 2),
            ("steps\nstep 0 0\nover 2/2\n", 3),
            ("steps\nstep 0 0\nover 0\nunder 0\n", None), ("steps\nstep 0 0\nover 0\nrow 0\n", 4), ("steps\n\n", 2),
            ("steps\nstep 0 0\nover 0\nunder 0\n\n", 5),
        ]:
            self.check(text, line)

    def test_lines_left_out_put_in_doubled_exchanged(self):
        draw = drawing(411)
        many = 0
        for _, _, text in KNOWN + [("", "", written(sort, draw_value(draw, sort))) for sort in SORTS * 4]:
            lines = text.split("\n")[:-1]
            if len(lines) > 12:
                continue
            changed = [lines[:at] + lines[at + 1:] for at in range(len(lines))] + [
                lines[:at] + [lines[at]] + lines[at:] for at in range(len(lines))
            ]
            for other in ("", "row 0", "x", "over 1", "step 0 0"):
                changed += [lines[:at] + [other] + lines[at:] for at in range(len(lines) + 1)]
            changed += [lines[:at] + [lines[at + 1], lines[at]] + lines[at + 2:] for at in range(len(lines) - 1)]
            for other in changed:
                made = "".join(line + "\n" for line in other)
                many += 1
                self.check(made, wrong_line(made))
        self.assertGreater(many, 500)

    def test_signs_changed(self):
        draw = drawing(412)
        for sort in SORTS * 12:
            text = written(sort, draw_value(draw, sort))
            for _ in range(8):
                at, sign = draw.randrange(len(text) + 1), draw.choice(" \n0123/-ax")
                for made in (text[:at] + sign + text[at:], text[:at] + text[at + 1:], text[:at] + sign + text[at + 1:]):
                    self.check(made, wrong_line(made))

    def test_words_changed(self):
        draw = drawing(413)
        for sort in SORTS * 8:
            lines = [line.split(" ") for line in written(sort, draw_value(draw, sort)).split("\n")[:-1]]
            for _ in range(6):
                row = draw.randrange(len(lines))
                at, word = draw.randrange(len(lines[row]) + 1), draw.choice(
                    ["0", "1", "-1", "1/2", "2/4", "00", "row", "over", "under", "beyond", ""]
                )
                for new in (
                    lines[row][:at] + [word] + lines[row][at:], lines[row][:at] + lines[row][at + 1:],
                    lines[row][:at] + [word] + lines[row][at + 1:],
                ):
                    made = "".join(" ".join(line) + "\n" for line in lines[:row] + [new] + lines[row + 1:])
                    self.check(made, wrong_line(made))

    def test_no_strings(self):
        for value in (
            None, True, 0, 1, b"place 1\n", b"", [], ["place 1\n"], ("place 1\n",), {}, LETTER, STRANGE, object(), str,
        ):
            check_raises(self, InvalidText, {"line": 0}, read, value)
            check_raises(self, InvalidText, {"line": 0}, read, text=value)

    def test_told_is_new(self):
        for _, _, text in KNOWN:
            check_call(self, read, {"text": text})


if __name__ == "__main__":
    unittest.main()
