"""The answers to the commands that change nothing."""

from innerfractions.answers import fraction_text, fractions_text, grid_text, is_so_text, states_text, words_text
from innerfractions.equations import equation
from innerfractions.fractions import Fraction
from innerfractions.halves import inner_ones
from innerfractions.moves import fixed_places, order
from innerfractions.ones import tells_letter
from innerfractions.own import is_round, own_moves
from innerfractions.pages import given_of
from innerfractions.places import worth
from innerfractions.twins import taken


def answer_of(page, command):
    """The answer to a command that is no deed, all of whose names are as it wants them."""
    word = command.word
    if word == "states":
        return states_text(page.states, sorted(page.notes))
    if word == "names":
        return words_text(sorted(page.things))
    if word == "state":
        return page.states[command.worths[0]]
    if word == "claimed":
        return words_text(page.notes[command.worths[0]].spoken)
    given = given_of(page.things, command.kinds, command.worths)
    if word == "show":
        return shown(given[0])
    if word == "degree":
        return str(given[0].degree) if isinstance(given[0], Fraction) else str(given[0].passes())
    if word == "same":
        return is_so_text(given[0] == given[1])
    if word == "point":
        return words_text(given[0].point(given[1]))
    if word == "equation":
        return grid_text(equation(given[0]))
    return told_of_fractions(word, given)


def shown(thing):
    """The fraction, or both of the curve."""
    if isinstance(thing, Fraction):
        return fraction_text(thing)
    return fractions_text([thing.first(), thing.second()])


def told_of_fractions(word, given):
    """The answer to a command that asks for something of fractions."""
    if word == "tells":
        return is_so_text(tells_letter(given))
    fraction, last = given[0], given[-1]
    if word == "worth":
        return str(worth(fraction, last))
    if word == "taken":
        return str(taken(fraction, last))
    if word == "order":
        many = order(fraction)
        return "none" if many is None else str(many)
    if word == "fixed":
        places = fixed_places(fraction)
        return "all" if places is None else words_text(places)
    if word == "inners":
        return fractions_text(inner_ones(fraction, last))
    if word == "moves":
        return fractions_text(own_moves(fraction))
    return is_so_text(is_round(fraction))
