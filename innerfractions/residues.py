"""Polynomials modulo a number: lists of INTEGERS from 0 to below it, without a nought at their end.

The modulus is a prime, where it says prime; else any number, and heads that are divided by have
an inverse. Nothing is checked here.
"""

from innerfractions.bare import derived_bare, lessened, multiplied, trimmed


def residues(poly, modulus):
    """The polynomial with its numbers taken by their rests."""
    return trimmed([number % modulus for number in poly])


def inverse(number, modulus):
    """The INTEGER that, times the number, has the rest 1."""
    first, second, here, there = modulus, number % modulus, 0, 1
    while second != 0:
        many = first // second
        first, second = second, first - many * second
        here, there = there, here - many * there
    return here % modulus


def monic(poly, modulus):
    """The polynomial with the head 1 that it is a number times; nought of nought."""
    if not poly:
        return []
    back = inverse(poly[-1], modulus)
    return [number * back % modulus for number in poly]


def divided_modulo(poly, other, modulus):
    """A tuple (quotient, rest) of the one divided by the other one."""
    back, quotient, rest = inverse(other[-1], modulus), [], list(poly)
    for shift in range(len(poly) - len(other), -1, -1):
        lead = rest[-1] * back % modulus
        rest = rest[:shift] + [(number - lead * part) % modulus for number, part in zip(rest[shift:-1], other)]
        quotient = [lead] + quotient
    return trimmed(quotient), trimmed(rest)


def rest_modulo(poly, other, modulus):
    """The rest of the one divided by the other one."""
    return divided_modulo(poly, other, modulus)[1]


def product_modulo(first, second, over, modulus):
    """The rest of the product of both, divided by over."""
    return rest_modulo(residues(multiplied(first, second), modulus), over, modulus)


def common_modulo(first, second, prime):
    """The common part of both, its head 1."""
    while second:
        first, second = second, rest_modulo(first, second, prime)
    return monic(first, prime)


def has_square_modulo(poly, prime):
    """Whether a polynomial that is not nought there has a square part there."""
    return len(common_modulo(poly, residues(derived_bare(poly), prime), prime)) > 1


def power_modulo(poly, many, over, prime):
    """The rest, divided by over, of the polynomial taken many times as a factor."""
    power, base = [1], rest_modulo(poly, over, prime)
    while many > 0:
        if many & 1:
            power = product_modulo(power, base, over, prime)
        base = product_modulo(base, base, over, prime)
        many = many >> 1
    return power


def inverse_modulo(poly, over, prime):
    """The polynomial that, times poly, has divided by over the rest 1; both have nothing in common."""
    first, second, here, there = over, rest_modulo(poly, over, prime), [], [1]
    while len(second) > 1:
        quotient, rest = divided_modulo(first, second, prime)
        first, second = second, rest
        here, there = there, residues(lessened(here, multiplied(quotient, there)), prime)
    back = inverse(second[0], prime)
    return residues([number * back for number in there], prime)
