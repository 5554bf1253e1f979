"""The commands of a desk: which strings are commands, and what their words are."""

from innerfractions.numerals import DIGITS, count_in, integer_in, number_in
from innerfractions.places import BEYOND
from innerfractions.polys import is_poly

LETTERS = "abcdefghijklmnopqrstuvwxyz"
LONGEST_NAME = 8
MOST_ONES = 4
MOST_SIZE = 999999
MOST_COUNT = 99

# Behind each word the kinds of the words that follow it. NEW is a name that is not taken yet, as
# NOTED is such a label; two dots stand for up to three more of the kind ahead of them.
DEEDS = {
    "fraction": "NEW POLY POLY",
    "letter": "NEW",
    "sum": "NEW ONE OTHER",
    "less": "NEW ONE OTHER",
    "times": "NEW ONE OTHER",
    "over": "NEW ONE OTHER",
    "put": "NEW ONE OTHER",
    "slope": "NEW ONE",
    "class": "NEW ONE",
    "outer": "NEW ONE INNER",
    "undone": "NEW ONE",
    "power": "NEW ONE INTEGER",
    "joined": "NEW ONE OTHER",
    "met": "NEW ONE INNER OTHER",
    "oneof": "NEW ONE ..",
    "curve": "NEW ONE OTHER",
    "plain": "NEW CURVE",
    "first": "NEW CURVE",
    "second": "NEW CURVE",
    "top": "ONE POLY",
    "bottom": "ONE POLY",
    "drop": "NAME",
    "forget": "LABEL",
}
# Of the deed claim, behind its label.
CLAIMED = {
    "made": "ONE ONE ..",
    "kept": "ONE ONE ..",
    "inner": "ONE INNER",
    "apart": "ONE INNER",
    "one": "ONE ONE ..",
    "notone": "ONE ONE ..",
    "whole": "ONE",
    "halved": "ONE",
    "on": "CURVE NUMBER NUMBER",
    "off": "CURVE NUMBER NUMBER",
    "same": "CURVE OTHER",
    "unlike": "CURVE OTHER",
}
QUESTIONS = {
    "undo": "",
    "redo": "",
    "state": "LABEL",
    "states": "",
    "claimed": "LABEL",
    "names": "",
    "show": "NAME",
    "degree": "NAME",
    "worth": "ONE PLACE",
    "taken": "ONE PLACE",
    "order": "ONE",
    "fixed": "ONE",
    "inners": "ONE COUNT",
    "moves": "ONE",
    "round": "ONE",
    "tells": "ONE ..",
    "point": "CURVE PLACE",
    "equation": "CURVE",
    "same": "NAME OTHER",
}


def is_name(value):
    """Whether any value is a name."""
    if not isinstance(value, str) or not 1 <= len(value) <= LONGEST_NAME or value[0] not in LETTERS:
        return False
    return all([sign in LETTERS or sign in DIGITS for sign in value])


def is_command(value):
    """Whether any value is a command by its words alone."""
    return command_in(value) is not None


def is_deed(value):
    """Whether any value is a deed."""
    command = command_in(value)
    return command is not None and command.is_deed


class Command:
    """A command: its words, the first one, and of those behind it the kinds and what they stand for."""

    def __init__(self, spoken, kinds, worths):
        self.spoken = spoken
        self.word = spoken[0]
        self.is_deed = self.word in DEEDS or self.word == "claim"
        self.kinds = kinds
        self.worths = worths


def command_in(value):
    """The Command that any value is; None if it is none."""
    if not isinstance(value, str):
        return None
    spoken = value.split(" ")
    kinds = kinds_behind(spoken[0], spoken[1:])
    if kinds is None:
        return None
    worths = [worth_of(kind, word) for kind, word in zip(kinds, spoken[1:])]
    return None if None in worths else Command(spoken, kinds, worths)


def kinds_behind(head, rest):
    """The list of the kinds of the words behind the first one; None if there are none such."""
    if head in DEEDS:
        return kinds_of(DEEDS[head], len(rest))
    if head in QUESTIONS:
        return kinds_of(QUESTIONS[head], len(rest))
    if head == "claim" and len(rest) > 1 and rest[1] in CLAIMED:
        kinds = kinds_of(CLAIMED[rest[1]], len(rest) - 2)
        return None if kinds is None else ["NOTED", "WORD"] + kinds
    return None


def kinds_of(told, many):
    """The kinds of so many words; None if they are more or fewer than told."""
    kinds = told.split()
    if ".." in kinds:
        kinds = kinds[:-1]
        more = many - len(kinds)
        return kinds + ["ONE"] * more if 0 <= more < MOST_ONES else None
    return kinds if len(kinds) == many else None


def worth_of(kind, word):
    """What the word stands for, as one of this kind; None if it is none."""
    if kind == "POLY":
        return poly_in(word)
    if kind == "NUMBER":
        return short_number_in(word)
    if kind == "PLACE":
        return BEYOND if word == BEYOND else short_number_in(word)
    if kind == "COUNT":
        return within(count_in(word))
    if kind == "INTEGER":
        return within(integer_in(word))
    return word if is_name(word) else None


def within(number):
    """The INTEGER, None for one with more than two digits, or for none."""
    return number if number is not None and abs(number) <= MOST_COUNT else None


def short_number_in(word):
    """The NUMBER with at most six digits above and below the stroke, as a Ratio; None if there is none."""
    number = number_in(word)
    return number if number is not None and max(abs(number.top), number.bottom) <= MOST_SIZE else None


def poly_in(word):
    """The polynomial whose numbers stand with commas between; None if there is none."""
    numbers = [] if word == "-" else [short_number_in(part) for part in word.split(",")]
    return None if None in numbers or not is_poly(numbers) else numbers
