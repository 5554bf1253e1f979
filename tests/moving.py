"""Known groups of moves, and moves inside fractions found anew by three places."""

import itertools

from innerfractions.fractions import Fraction, letter, put
from innerfractions.moves import move_by, undone
from innerfractions.places import worth
from innerfractions.turning import fibre
from innerfractions.forms import places_of

T = letter()
OTHER_SIGN, OVER, THIRD = Fraction([0, -1]), Fraction([1], [0, 1]), Fraction([1], [1, -1])
FOURTH, SIXTH = Fraction([1, 1], [1, -1]), Fraction([-1, 2], [1, 1])
# Moves, and how many members the group has that they grow to.
GROWING = [
    ([T], 1), ([OTHER_SIGN], 2), ([OVER], 2), ([THIRD], 3), ([FOURTH], 4), ([OTHER_SIGN, OVER], 4), ([THIRD, OVER], 6),
    ([SIXTH], 6),
    ([FOURTH, OTHER_SIGN], 8), ([SIXTH, OVER], 12),
]
# Moves whose group is not finite.
ENDLESS = [
    [T + 1], [T * 2], [OVER, T + 1], [THIRD, OTHER_SIGN], [Fraction([1, 2], [1, 1])], [FOURTH, THIRD],
    [OTHER_SIGN, 1 - T], [Fraction([1, 1], [2])],
    [T * -2], [SIXTH, OTHER_SIGN], [OVER, Fraction([2], [0, 1])],
]


def closed(moves):
    """The group that moves grow to, in no sequence; None if it has more than 12."""
    found = [T]
    while True:
        longer = list(found)
        for one in found + list(moves):
            for other in found + list(moves):
                for made in (put(one, other), undone(one)):
                    if made not in longer:
                        longer.append(made)
        if len(longer) > 12:
            return None
        if len(longer) == len(found):
            return found
        found = longer


def led(move, by):
    """The move in the letter that another move changes."""
    return put(put(by, move), undone(by))


def left_by(group):
    """A fraction that no move of the group changes, of as high a degree as it has members: [76]."""
    beyond = [worth(move, "beyond") for move in group]
    number = next(one for one in range(20) if all(str(place) != str(one) for place in beyond))
    product = Fraction([1])
    for move in group:
        product = product * (move - number)
    return product


def moves_by_places(fraction, other):
    """All moves m with the other one = fraction of m, by the places to which three COUNTS can be led."""
    if fraction.degree != other.degree:
        return []
    goals = [[place for place, _ in places_of(fibre(fraction, worth(other, number)))] for number in (1, 2, 3)]
    found = []
    for three in itertools.product(*goals):
        if len({str(place) for place in three}) == 3:
            move = move_by([1, 2, 3], list(three))
            if put(fraction, move) == other:
                found.append(move)
    return found
