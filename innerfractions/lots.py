"""Whole factors of polynomials of INTEGERS, found by lots of their pieces modulo a prime."""

from math import lcm

from innerfractions.bare import bare, derived_bare, divided_bare, multiplied_all, raised, scaled_by
from innerfractions.commons import common_bare, quotient_bare
from innerfractions.pieces import is_served, led_along, pieces_of
from innerfractions.residues import residues

# Primes that are tried for the one with the fewest pieces.
MOST_TRIED = 5


def is_odd_prime(number):
    """Whether the odd number from 3 on is a prime."""
    divisor = 3
    while divisor * divisor <= number:
        if number % divisor == 0:
            return False
        divisor = divisor + 2
    return True


def fewest_pieces(poly):
    """A tuple (prime, pieces) with as few pieces as one of the first serving primes has.

    Primes above 60 are taken as well, since those below need not serve.
    """
    prime, tried, best = 3, 0, (0, [])
    while tried < MOST_TRIED and len(best[1]) != 1:
        if is_odd_prime(prime) and is_served(poly, prime):
            tried = tried + 1
            pieces = pieces_of(poly, prime)
            if tried == 1 or len(pieces) < len(best[1]):
                best = (prime, pieces)
        prime = prime + 2
    return best


def factor_bound(poly):
    """More than twice each number of a factor, times the polynomial's head, has (Mignotte)."""
    return 2 * raised(2, len(poly)) * sum([abs(number) for number in poly])


def lots_of(many, size):
    """All rising lists of so many positions below many."""
    lots = [[]]
    for _ in range(size):
        lots = [lot + [at] for lot in lots for at in range(lot[-1] + 1 if lot else 0, many)]
    return lots


def candidate(poly, chosen, modulus):
    """The one bare polynomial of small size that can have just the chosen pieces."""
    product = residues(scaled_by(multiplied_all(chosen), poly[-1]), modulus)
    return bare([number - modulus if 2 * number > modulus else number for number in product])


def first_factor(poly, pieces, size, modulus):
    """A tuple (factor, lot) for the first lot of this size that makes one; None if none does."""
    for lot in lots_of(len(pieces), size):
        factor = candidate(poly, [pieces[at] for at in lot], modulus)
        if not divided_bare(poly, factor)[2]:
            return factor, lot
    return None


def whole_ones(poly):
    """The bare factors of a bare polynomial of degree 1 or more without a square part."""
    prime, pieces = fewest_pieces(poly)
    if len(pieces) == 1:
        return [poly]
    pieces, modulus = led_along(poly, pieces, prime, factor_bound(poly))
    found, size = [], 1
    while 2 * size <= len(pieces):
        made = first_factor(poly, pieces, size, modulus)
        if made is None:
            size = size + 1
        else:
            factor, lot = made
            found.append(factor)
            poly = quotient_bare(poly, factor)
            pieces = [pieces[at] for at in range(len(pieces)) if at not in lot]
    return found + [poly]


def square_free_parts(poly):
    """The tuples (part, how often) of a bare polynomial, no part with a square part."""
    often, parts = 1, []
    more = common_bare(poly, derived_bare(poly))
    once = quotient_bare(poly, more)
    while len(once) > 1:
        left = common_bare(once, more)
        part = quotient_bare(once, left)
        if len(part) > 1:
            parts.append((part, often))
        once, more, often = left, quotient_bare(more, left), often + 1
    return parts


def one_head(polys):
    """The least INTEGER that each polynomial's head divides."""
    head = 1
    for poly in polys:
        head = lcm(head, poly[-1])
    return head


def standing(poly, head):
    """What bare polynomials are sorted by: their degree, then their numbers, over one head."""
    return len(poly), [number * (head // poly[-1]) for number in poly]


def bare_factors(poly):
    """The sorted list of the tuples (bare factor, how often) of a polynomial that is not nought."""
    factors = [(whole, often) for part, often in square_free_parts(bare(poly)) for whole in whole_ones(part)]
    head = one_head([whole for whole, _ in factors])
    return sorted(factors, key=lambda pair: standing(pair[0], head))
