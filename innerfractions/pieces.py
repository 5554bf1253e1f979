"""The pieces of polynomials modulo a prime, and how they are led along to its powers."""

from innerfractions.bare import lessened, multiplied_all, raised, scaled_by, summed
from innerfractions.residues import common_modulo, divided_modulo, has_square_modulo, inverse_modulo
from innerfractions.residues import monic, power_modulo, product_modulo, residues


def is_served(poly, prime):
    """Whether the prime serves a bare polynomial."""
    return poly[-1] % prime != 0 and not has_square_modulo(residues(poly, prime), prime)


def parted_by_degrees(poly, prime):
    """The tuples (degree, product) of all pieces of each degree, the degrees rising.

    The polynomial has no square part there. All of the degree d divide t ** (prime ** d) - t.
    """
    parts, many, rest, power = [], 0, monic(poly, prime), [0, 1]
    while len(rest) > 1:
        many = many + 1
        if 2 * many >= len(rest):
            return parts + [(len(rest) - 1, rest)]
        power = power_modulo(power, prime, rest, prime)
        part = common_modulo(rest, residues(lessened(power, [0, 1]), prime), prime)
        if len(part) > 1:
            parts.append((many, part))
            rest, _ = divided_modulo(rest, part, prime)
    return parts


def digits_poly(number, prime):
    """The polynomial whose numbers are the digits of the number to the base of the prime."""
    poly = []
    while number > 0:
        poly.append(number % prime)
        number = number // prime
    return poly


def tried_apart(poly, trial, half, prime):
    """The polynomial parted into two by the trial, or alone if this does not part it."""
    power = power_modulo(trial, half, poly, prime)
    part = common_modulo(poly, residues(lessened(power, [1]), prime), prime)
    if 1 < len(part) < len(poly):
        return [part, divided_modulo(poly, part, prime)[0]]
    return [poly]


def alike_pieces(poly, many, prime):
    """The pieces of a polynomial that all have this degree.

    Modulo a piece each trial, taken half = (prime ** many - 1) / 2 times as a factor, is 0, 1 or
    -1. For two pieces some trial of less than both degrees is 1 at one, -1 at the other one: so
    counting through all trials parts them, mostly at once.
    """
    half, parts, number = raised(prime, many) // 2, [poly], prime
    while len(parts) * many < len(poly) - 1:
        trial = digits_poly(number, prime)
        parts = [piece for part in parts for piece in tried_apart(part, trial, half, prime)]
        number = number + 1
    return parts


def pieces_of(poly, prime):
    """The pieces, their heads 1, of a bare polynomial that the prime serves."""
    parts = parted_by_degrees(residues(poly, prime), prime)
    return [piece for many, part in parts for piece in alike_pieces(part, many, prime)]


def others_of(poly, pieces, at):
    """The product of the polynomial's head and all pieces but the one at the position."""
    return scaled_by(multiplied_all(pieces[:at] + pieces[at + 1:]), poly[-1])


def led_along(poly, pieces, prime, bound):
    """A tuple of the pieces led along to a power of the prime above the bound, and this power.

    What the polynomial leaves when it is divided by a piece, times the piece's helper, is what
    the piece lacks. The helpers are the inverses of all else that the polynomial is a product of.
    Each round squares the modulus.
    """
    modulus, places = prime, list(range(len(pieces)))
    helpers = [inverse_modulo(residues(others_of(poly, pieces, at), prime), pieces[at], prime) for at in places]
    while modulus <= bound:
        modulus = modulus * modulus
        lacks = [product_modulo(poly, helpers[at], pieces[at], modulus) for at in places]
        pieces = [residues(summed(pieces[at], lacks[at]), modulus) for at in places]
        helpers = [bettered(helpers[at], others_of(poly, pieces, at), pieces[at], modulus) for at in places]
    return pieces, modulus


def bettered(helper, others, piece, modulus):
    """The helper made the inverse of the others modulo the piece, for a modulus that was squared."""
    near_one = product_modulo(helper, others, piece, modulus)
    return product_modulo(helper, lessened([2], near_one), piece, modulus)
