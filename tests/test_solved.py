"""[15], [16]: rows in steps, what rows lead to 0, solutions."""

import copy
import unittest

import reference
from helpers import LETTER, NO_ROWS, STRANGE, check_raises, check_refusals, draw_number, drawing, exact, ratios
from innerfractions.errors import InvalidGoals, InvalidMany, InvalidRows
from innerfractions.ratios import Ratio
from innerfractions.solved import is_solution, kernel, solution, steps

HALF = Ratio(1, 2)
NO_WIDTHS = [None, True, False, 0, -1, 41, 10 ** 20, "1", [1], (1,), Ratio(1), Ratio(2), STRANGE, object()]
NO_GOALS = [
    None, True, 1, "12", b"12", {}, {0: 1, 1: 2}, [], [1], [1, 2, 3], [1, True], [False, 1], [1, None], [1, "2"], [[1], [2]],
    (1,), (1, 2, 3), LETTER, STRANGE, object(),
]


def drawn_rows(seed, many):
    """Rows, some of them made of others, in some sequence."""
    draw = drawing(seed)
    for _ in range(many):
        wide = draw.randint(1, 9)
        rows = [[draw_number(draw) for _ in range(wide)] for _ in range(draw.randint(0, 8))]
        if rows:
            for _ in range(draw.randint(0, 5)):
                one, other, number = draw.choice(rows), draw.choice(rows), draw_number(draw)
                rows.append([Ratio(1) * first + number * Ratio(1) * second for first, second in zip(one, other)])
        draw.shuffle(rows)
        yield rows, wide


def exact_rows(rows):
    return [[exact(number) for number in row] for row in rows]


def led(row, numbers):
    return sum(exact(one) * exact(other) for one, other in zip(row, numbers))


def rows_of(*rows):
    return [ratios(*row) for row in rows]


class Steps(unittest.TestCase):
    def check_told(self, made):
        self.assertIs(type(made), list)
        for row in made:
            self.assertIs(type(row), list)
            self.assertTrue(all(type(number) is Ratio for number in row))

    def test_drawn(self):
        for rows, _ in drawn_rows(31, 150):
            made = steps(rows)
            self.check_told(made)
            self.assertEqual(exact_rows(made), reference.steps(exact_rows(rows)))
            self.assertEqual(steps(rows=rows), made)
            self.assertEqual(steps(tuple(tuple(row) for row in rows)), made)
            self.assertEqual(steps(made), made)

    def test_of_other_sequence_and_times_numbers(self):
        draw = drawing(32)
        for rows, _ in drawn_rows(33, 50):
            factors = [draw.choice([1, -2, HALF, Ratio(-5, 3)]) for _ in rows]
            other = [[Ratio(1) * number * factor for number in row] for row, factor in zip(rows, factors)]
            draw.shuffle(other)
            self.assertEqual(steps(other), steps(rows))

    def test_noughts(self):
        self.assertEqual(steps([]), [])
        self.assertEqual(steps(()), [])
        self.assertEqual(steps([[0, 0], [Ratio(0), 0]]), [])
        self.assertEqual(steps([[0, 0], [0, 5]]), rows_of([0, 1]))
        self.assertEqual(steps([[1, 2], [2, 4], [3, 6]]), rows_of([1, 2]))

    def test_above_and_below_heads(self):
        self.assertEqual(steps([[1, 1, 1], [0, 1, 1], [0, 0, 2]]), rows_of([1, 0, 0], [0, 1, 0], [0, 0, 1]))
        self.assertEqual(steps([[0, 0, 3, 1], [2, 4, 0, 0]]), rows_of([1, 2, 0, 0], [0, 0, 1, Ratio(1, 3)]))

    def test_bounds(self):
        draw = drawing(34)
        rows = [[draw.randint(-9, 9) for _ in range(40)] for _ in range(60)]
        self.assertEqual(exact_rows(steps(rows)), reference.steps(exact_rows(rows)))
        self.assertEqual(len(steps(rows)), 40)
        self.assertEqual(steps([[7] * 40] * 60), rows_of([1] * 40))
        for wrong in (rows + [[0] * 40], [[0] * 41]):
            check_raises(self, InvalidRows, {"value": wrong}, steps, wrong)

    def test_refused(self):
        check_refusals(self, steps, [("rows", InvalidRows, NO_ROWS)], {"rows": [[1]]})


class Kernel(unittest.TestCase):
    def test_drawn(self):
        for rows, wide in drawn_rows(35, 150):
            made = kernel(rows, wide)
            self.assertEqual(steps(made), made)
            self.assertTrue(all(type(number) is Ratio for row in made for number in row))
            self.assertTrue(all(led(row, other) == 0 for row in rows for other in made))
            self.assertEqual(len(made) + len(steps(rows)), wide)
            self.assertEqual(kernel(wide=wide, rows=rows), made)
            self.assertEqual(kernel(tuple(tuple(row) for row in rows), wide), made)
            # What the kernel leads to 0 is again what the rows make.
            self.assertEqual(kernel(made, wide), steps(rows))

    def test_of_no_rows(self):
        for wide in (1, 2, 40):
            self.assertEqual(kernel([], wide), rows_of(*[[int(at == by) for at in range(wide)] for by in range(wide)]))
        self.assertEqual(kernel([[0, 0]], 2), rows_of([1, 0], [0, 1]))

    def test_of_all(self):
        self.assertEqual(kernel([[1, 0], [1, 1]], 2), [])
        self.assertEqual(kernel([[Ratio(-7, 3)]], 1), [])

    def test_bounds(self):
        rows = [[(at * by + 1) * (at - 20) for by in range(40)] for at in range(60)]
        self.assertEqual(len(kernel(rows, 40)), 38)
        check_raises(self, InvalidMany, {"value": 41}, kernel, [], 41)

    def test_refused(self):
        refused = [("rows", InvalidRows, NO_ROWS), ("wide", InvalidMany, NO_WIDTHS)]
        check_refusals(self, kernel, refused, {"rows": [[1, 2]], "wide": 2})
        check_refusals(self, kernel, refused, {"rows": [], "wide": 40})

    def test_other_width(self):
        for rows in ([[1, 2]], ((1, 2), (3, 4))):
            for wide in (1, 3, 40):
                check_raises(self, InvalidRows, {"value": rows}, kernel, rows, wide)
            check_raises(self, InvalidMany, {"value": 0}, kernel, rows, 0)


class Solutions(unittest.TestCase):
    def test_drawn(self):
        draw = drawing(36)
        for rows, wide in drawn_rows(37, 200):
            if not rows:
                continue
            goals = [draw_number(draw) for _ in rows]
            if draw.random() < 0.6:
                numbers = [draw_number(draw) for _ in range(wide)]
                goals = ratios(*[led(row, numbers) for row in rows])
                self.assertIs(is_solution(rows, goals, numbers), True)
            told = solution(rows, goals)
            longer = [list(row) + [goal] for row, goal in zip(rows, goals)]
            # There is one just where the goals follow the rows: then no step is of the goals alone.
            self.assertEqual(told is None, steps(longer)[-1:] == rows_of([0] * wide + [1]))
            self.assertEqual(solution(goals=goals, rows=rows), told)
            self.assertEqual(solution(tuple(tuple(row) for row in rows), tuple(goals)), told)
            if told is not None:
                self.check(rows, goals, told)

    def check(self, rows, goals, told):
        self.assertIs(type(told), list)
        self.assertTrue(all(type(number) is Ratio for number in told))
        self.assertEqual([led(row, told) for row in rows], [exact(goal) for goal in goals])
        self.assertIs(is_solution(rows, goals, told), True)
        for row in kernel(rows, len(rows[0])):
            other = [one + number for one, number in zip(told, row)]
            self.assertIs(is_solution(rows, goals, other), True)
            self.assertIs(is_solution(value=tuple(other), goals=goals, rows=rows), True)
        for row in steps(rows):
            self.assertIs(is_solution(rows, goals, [one + number for one, number in zip(told, row)]), False)

    def test_noughts(self):
        self.assertIsNone(solution([[0, 0]], [1]))
        self.check([[0, 0]], [0], solution([[0, 0]], [0]))

    def test_bounds(self):
        draw = drawing(38)
        rows = [[draw.randint(-999999, 999999) for _ in range(40)] for _ in range(20)]
        goals = [draw.randint(-999999, 999999) for _ in range(20)]
        told = solution(rows, goals)
        self.assertEqual([led(row, told) for row in rows], goals)
        self.assertLess(max(max(abs(number.top), number.bottom) for number in told), 10 ** 2000)
        self.assertEqual(solution([[1] * 40] * 60, [3] * 60)[0], Ratio(3))

    def test_refused(self):
        rows = ("rows", InvalidRows, NO_ROWS + [[], ()])
        goals = ("goals", InvalidGoals, NO_GOALS)
        check_refusals(self, solution, [rows, goals], {"rows": [[1], [2]], "goals": [3, HALF]})
        check_refusals(self, is_solution, [rows, goals], {"rows": ((1,), (2,)), "goals": (3, 4), "value": None})
        check_raises(self, InvalidRows, {}, solution, [], [])

    def test_is_solution_of_any_value(self):
        rows, goals = [[1, 1, 0]], [2]
        for value in ([5, -3, 7], (Ratio(5), -3, HALF), [2, 0, 0]):
            self.assertIs(is_solution(rows, goals, value), True)
        others = [
            None, True, 2, "200", b"200", {}, {0: 2}, [], [2], [2, 0], [2, 0, 0, 0], [1, 0, 0], [2, 0, True], [2, 0, None],
            [2, 0, "0"], [2, False, 0], [[2], 0, 0], LETTER, STRANGE, object(), (1, 0, 0), [HALF, HALF, 0],
        ]
        for value in others:
            self.assertIs(is_solution(rows, goals, value), False, value)

    def test_arguments_stay(self):
        for rows, wide in drawn_rows(39, 20):
            kept = copy.deepcopy(rows)
            steps(rows)
            kernel(rows, wide)
            if rows:
                solution(rows, [1] * len(rows))
            self.assertEqual(rows, kept)
            self.assertEqual([type(number) for row in rows for number in row], [type(number) for row in kept for number in row])


if __name__ == "__main__":
    unittest.main()
