"""Groups of moves, and what they do not change."""

from innerfractions.classes import told_class
from innerfractions.errors import InvalidMoves, NotFinite, NotGroup
from innerfractions.fractions import Fraction, letter, put
from innerfractions.moves import is_move
from innerfractions.places import BEYOND, worth
from innerfractions.ratios import Ratio
from innerfractions.standings import sorted_fractions

# No finite group of moves over fractions has more.
MOST_MOVES = 12


def need_moves(value):
    """InvalidMoves unless the value is a list of 1 to 12 moves."""
    if not isinstance(value, (list, tuple)) or not 1 <= len(value) <= MOST_MOVES:
        raise InvalidMoves(value)
    if not all([is_move(move) for move in value]):
        raise InvalidMoves(value)


def grown(moves):
    """The sorted list of the moves of the least group that holds these.

    Undone ones are not asked for: in a finite group each is a power.
    """
    need_moves(moves)
    found, at = [letter()], 0
    while at < len(found):
        for move in moves:
            made = put(found[at], move)
            if made not in found:
                found.append(made)
        if len(found) > MOST_MOVES:
            raise NotFinite()
        at = at + 1
    return sorted_fractions(found)


def is_group(moves):
    """Whether the moves are unlike, and the one of the other of any two is among them."""
    need_moves(moves)
    if any([move in moves[:at] for at, move in enumerate(moves)]):
        return False
    return all([put(move, other) in moves for move in moves for other in moves])


def one_of_group(moves):
    """The told Fraction of the class of the one of all fractions that none of the moves changes."""
    if not is_group(moves):
        raise NotGroup()
    met, number = [worth(move, BEYOND) for move in moves], 0
    while Ratio(number) in met:
        number = number + 1
    product = Fraction([1])
    for move in moves:
        product = product * (move - number)
    return told_class(product)
