"""[36] to [38]: moves, the places that they fix, their powers and orders."""

import itertools
import unittest

import plain
from helpers import LETTER, NO_MOVES, NO_PLACES, STRANGE, check_call, check_refusals, draw_fraction, draw_place, drawing
from innerfractions.errors import InvalidMove, InvalidPlaces, InvalidPower
from innerfractions.fractions import Fraction, letter, put
from innerfractions.moves import fixed_places, is_move, move_by, order, power, undone
from innerfractions.places import told_place, worth
from innerfractions.ratios import Ratio

MOVES = [
    LETTER, -LETTER, LETTER + 1, Fraction([1], [0, 1]), Fraction([3, 2], [1, 4]), Fraction([Ratio(1, 2), Ratio(2, 3)], [0, -7]),
    Fraction([-1], [0, 1]), Fraction([999999, 1], [1, 999998]), Fraction([0, 1], [1, 1]),
]
# Moves of the orders that there are over fractions.
ORDERS = [
    (LETTER, 1), (-LETTER, 2), (Fraction([1], [0, 1]), 2), (3 - LETTER, 2), (Fraction([0, 1], [-1, 1]), 2), (Fraction([1], [1, -1]), 3),
    (1 - Fraction([1], [0, 1]), 3), (Fraction([1, 1], [1, -1]), 4), (Fraction([-1, 1], [1, 1]), 4), (Fraction([1, 1], [2, -1]), 6),
    (Fraction([-1], [-3, 3]), 6), (LETTER + 1, None), (LETTER * 2, None), (Fraction([1, 1], [0, 1]), None), (Fraction([0, 1], [1, 1]), None),
    (LETTER * Ratio(-1, 2), None),
]
NO_THREE = [
    None, True, 3, "012", "beyond", b"012", {}, {0: 1, 1: 2, 2: 3}, [], [0, 1], [0, 1, 2, 3], (0, 1), [0, 1, 2, 2],
    [0, "beyond", 1, 0], [0, 0, 1], [0, 1, 0],
    [1, 0, 0], ["beyond", 0, "beyond"], ["beyond", "beyond", 1], [0, 1, Ratio(1)], [Ratio(1, 2), 3, Ratio(2, 4)], [0, 1, None],
    [True, 2, 3], [0, 1, "2"], [[0], 1, 2], [0, LETTER, 1], STRANGE, object(),
]
NO_POWERS = [None, True, False, 21, -21, 10 ** 20, "1", b"1", Ratio(1), Ratio(0), [1], (1,), {}, LETTER, STRANGE, object()]


def unlike_places(draw):
    """Three unlike places."""
    while True:
        places = [draw_place(draw) for _ in range(3)]
        told = [plain.spot(place) for place in places]
        if told[0] != told[1] and told[1] != told[2] and told[0] != told[2]:
            return places


class Moves(unittest.TestCase):
    def test_any_value(self):
        for move in MOVES + [Fraction([1, 3, 2], [1, 1, 0]), Fraction([-1, 0, 1], [1, 1])]:
            self.assertIs(is_move(move), True)
            self.assertIs(is_move(value=move), True)
        for value in NO_MOVES:
            self.assertIs(is_move(value), False, value)
        for many in range(25):
            self.assertIs(is_move(Fraction([1, 1], [0] * many + [7])), many == 1 or many == 0)
            self.assertIs(is_move(Fraction([0] * many + [7], [1])), many == 1)

    def test_refused(self):
        for function in (undone, fixed_places, order):
            check_refusals(self, function, [("move", InvalidMove, NO_MOVES)], {"move": MOVES[4]})
        refused = [("move", InvalidMove, NO_MOVES), ("many", InvalidPower, NO_POWERS)]
        for many in (0, 1, -20, 20):
            check_refusals(self, power, refused, {"move": MOVES[4], "many": many})
        refused = [("places", InvalidPlaces, NO_THREE), ("goals", InvalidPlaces, NO_THREE)]
        check_refusals(self, move_by, refused, {"places": (0, 1, "beyond"), "goals": [Ratio(1, 2), "beyond", 7]})
        with_others = [[0, 1, value] for value in NO_PLACES] + [[value, 0, "beyond"] for value in NO_PLACES]
        check_refusals(self, move_by, [("places", InvalidPlaces, with_others)], {"places": [0, 1, 2], "goals": [2, 1, 0]})
        check_refusals(self, move_by, [("goals", InvalidPlaces, with_others)], {"places": [0, 1, 2], "goals": [2, 1, 0]})


class Led(unittest.TestCase):
    def check(self, places, goals):
        move = check_call(self, move_by, {"places": places, "goals": goals})
        self.assertIs(is_move(move), True)
        for place, goal in zip(places, goals):
            self.assertEqual(worth(move, place), told_place(goal))
        return move

    def test_beyond_at_each_position(self):
        three = [[2, Ratio(-1, 3), 5], ["beyond", 2, 0], [1, "beyond", Ratio(1, 2)], (0, -1, "beyond")]
        for places, goals in itertools.product(three, three):
            for first, second in itertools.product(itertools.permutations(places), itertools.permutations(goals)):
                self.check(list(first), second)

    def test_drawn(self):
        draw = drawing(111)
        for _ in range(150):
            self.check(unlike_places(draw), unlike_places(draw))

    def test_just_one(self):
        draw = drawing(112)
        for _ in range(60):
            move, places = draw_fraction(draw, 1), unlike_places(draw)
            self.assertEqual(move_by(places, [worth(move, place) for place in places]), move)

    def test_to_themselves(self):
        for places in ([0, 1, "beyond"], ("beyond", 7, -7)):
            self.assertEqual(move_by(places, places), letter())


class Undone(unittest.TestCase):
    def test_on_either_side(self):
        draw = drawing(113)
        for move in MOVES + [draw_fraction(draw, 1, 999) for _ in range(60)]:
            back = check_call(self, undone, {"move": move})
            self.assertEqual(put(move, back), letter())
            self.assertEqual(put(back, move), letter())
            self.assertEqual(undone(back), move)

    def test_each_worth_back(self):
        for move in MOVES:
            for place in ("beyond", 0, 1, Ratio(-2, 3)):
                self.assertEqual(worth(undone(move), worth(move, place)), told_place(place))


class Fixed(unittest.TestCase):
    def test_known(self):
        half = Ratio(1, 2)
        for move, wanted in [
            (LETTER, None), (Fraction([2, 2, 0], [2]) - 1, None), (LETTER + 1, ["beyond"]), (LETTER * 3 - 1, [half, "beyond"]),
            (-LETTER, [Ratio(0), "beyond"]), (Fraction([1], [0, 1]), [Ratio(-1), Ratio(1)]), (Fraction([-1], [0, 1]), []),
            (Fraction([2], [0, 1]), []), (Fraction([0, 1], [1, 1]), [Ratio(0)]), (Fraction([-1, 3], [1, 1]), [Ratio(1)]),
            (Fraction([-6, 5], [0, 1]), [Ratio(2), Ratio(3)]), (Fraction([1, 5], [0, 6]), [Ratio(-1, 6), Ratio(1)]),
            (Fraction([0, 5], [2, 1]), [Ratio(0), Ratio(3)]), (Fraction([4], [0, 9]), [Ratio(-2, 3), Ratio(2, 3)]),
        ]:
            if move == LETTER:
                self.assertIsNone(wanted)
            self.assertEqual(check_call(self, fixed_places, {"move": move}), wanted)

    def test_led_to_where_they_are(self):
        draw = drawing(114)
        for _ in range(80):
            first, second, stretch = draw_place(draw), draw_place(draw), draw.choice([2, -1, Ratio(3, 5), Ratio(-7, 2)])
            if told_place(first) == told_place(second) or told_place(first) == Ratio(17) or told_place(second) == Ratio(17):
                continue
            # What 0 and beyond are led to is fixed by the move that stretches between.
            lead = move_by([0, "beyond", 1], [first, second, 17])
            move = put(lead, put(LETTER * stretch, undone(lead)))
            made = fixed_places(move)
            told = [told_place(first), told_place(second)]
            self.assertEqual(len(made), 2)
            self.assertTrue(all(place in told for place in made))
            if "beyond" in told:
                self.assertEqual(made[1], "beyond")
            else:
                self.assertTrue(made[0].is_below(made[1]))

    def test_each_is_its_own_worth(self):
        draw = drawing(115)
        for _ in range(100):
            move = draw_fraction(draw, 1)
            for place in fixed_places(move) or []:
                self.assertEqual(worth(move, place), place)


class Powers(unittest.TestCase):
    def test_each_from_least_to_greatest(self):
        draw = drawing(116)
        for move in MOVES + [draw_fraction(draw, 1) for _ in range(5)]:
            whole, back, other = letter(), letter(), undone(move)
            for many in range(21):
                self.assertEqual(power(move, many), whole)
                self.assertEqual(power(move, -many), back)
                whole, back = put(move, whole), put(other, back)
            self.assertEqual(check_call(self, power, {"move": move, "many": 1}), move)
            self.assertEqual(check_call(self, power, {"move": move, "many": 0}), letter())
            self.assertEqual(check_call(self, power, {"move": move, "many": -1}), other)

    def test_they_add_up(self):
        for move in MOVES:
            for many, more in [(3, 4), (-3, 5), (20, -20), (-7, -13), (0, 9), (11, 9)]:
                self.assertEqual(put(power(move, many), power(move, more)), power(move, many + more))

    def test_orders(self):
        for move, wanted in ORDERS:
            made = check_call(self, order, {"move": move})
            self.assertEqual(made, wanted)
            self.assertIn(type(made), (int, type(None)))
            if wanted:
                self.assertEqual(power(move, wanted), letter())
                self.assertTrue(all(power(move, many) != letter() for many in range(1, wanted)))
            else:
                self.assertTrue(all(power(move, many) != letter() for many in range(1, 21)))

    def test_orders_stay_under_moves(self):
        draw = drawing(117)
        for move, wanted in ORDERS:
            for _ in range(6):
                lead = draw_fraction(draw, 1)
                self.assertEqual(order(put(lead, put(move, undone(lead)))), wanted)


if __name__ == "__main__":
    unittest.main()
