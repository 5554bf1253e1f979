"""COUNTS, INTEGERS and NUMBERS as words: each is written in just one way."""

from math import gcd

from innerfractions.ratios import Ratio

DIGITS = "0123456789"


def count_in(word):
    """The COUNT that is written so; None if none is."""
    if word == "" or not all([sign in DIGITS for sign in word]):
        return None
    return int(word) if len(word) == 1 or word[0] != "0" else None


def integer_in(word):
    """The INTEGER that is written so; None if none is."""
    if not word.startswith("-"):
        return count_in(word)
    size = count_in(word[1:])
    return -size if size is not None and size > 0 else None


def number_in(word):
    """The NUMBER that is written so, as a Ratio; None if none is."""
    above, stroke, below = word.partition("/")
    top, bottom = integer_in(above), count_in(below) if stroke == "/" else 1
    if top is None or bottom is None or (stroke == "/" and (bottom < 2 or gcd(top, bottom) != 1)):
        return None
    return Ratio(top, bottom)


def numbers_in(words):
    """The list of the NUMBERS that the words are; None unless each word is one."""
    numbers = [number_in(word) for word in words]
    return None if None in numbers else numbers
