"""Polynomials modulo small primes, and the degrees of their pieces there."""

from innerfractions.bare import bare
from innerfractions.basics import is_integer
from innerfractions.errors import InvalidPrime, NotServed, NoughtPoly
from innerfractions.pieces import is_served, parted_by_degrees
from innerfractions.polys import cleared_poly, need_poly
from innerfractions.residues import residues

PRIMES = (3, 5, 7, 11, 13, 17, 19, 23, 29, 31, 37, 41, 43, 47, 53, 59)


def is_prime(value):
    """Whether any value is an odd prime below 60."""
    return is_integer(value) and value in PRIMES


def bare_of(poly, prime):
    """The bare one of the polynomial, behind all errors of both but those that hang on both."""
    need_poly(poly)
    if not is_prime(prime):
        raise InvalidPrime(prime)
    integers, _ = cleared_poly(poly)
    if not integers:
        raise NoughtPoly()
    return bare(integers)


def serves(poly, prime):
    """Whether the prime serves the polynomial."""
    return is_served(bare_of(poly, prime), prime)


def piece_degrees(poly, prime):
    """The rising list of the degrees of the polynomial's pieces modulo the prime."""
    integers = bare_of(poly, prime)
    if not is_served(integers, prime):
        raise NotServed()
    degrees = []
    for many, part in parted_by_degrees(residues(integers, prime), prime):
        degrees = degrees + [many] * ((len(part) - 1) // many)
    return degrees
