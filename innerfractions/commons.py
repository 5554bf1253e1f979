"""Common parts of polynomials of INTEGERS, and what is brought to lowest terms by them."""

from innerfractions.bare import bare, content, divided_bare, lessened, multiplied, scaled_by
from innerfractions.residues import common_modulo, residues

# A prime, great enough that polynomials without a common part hardly ever have one modulo it.
WIDE_PRIME = 2147483647


def are_plainly_unlike(first, second):
    """Whether modulo one prime it shows that both, not nought, have no common part.

    Where the prime does not divide the head of the one, each common part stays of its degree.
    """
    if len(first) == 1 or len(second) == 1:
        return True
    if first[-1] % WIDE_PRIME == 0:
        return False
    return len(common_modulo(residues(first, WIDE_PRIME), residues(second, WIDE_PRIME), WIDE_PRIME)) == 1


def common_bare(poly, other):
    """The bare one of the common part."""
    first, second = bare(poly), bare(other)
    if first and second and are_plainly_unlike(first, second):
        return [1]
    while second:
        first, second = second, bare(divided_bare(first, second)[2])
    return first


def quotient_bare(poly, other):
    """The bare one of the quotient by another one that divides the polynomial."""
    return bare(divided_bare(poly, other)[1])


def lowest(top, bottom):
    """A tuple of top and bottom in lowest terms, the bottom's head above 0.

    Both are INTEGERS without a divisor common to all, so a fraction has just one such tuple.
    """
    if not top:
        return [], [1]
    shared = common_bare(top, bottom)
    if len(shared) > 1:
        # Both are divided with the one power, so that the quotient of both stays the same.
        power, up, _ = divided_bare(top, shared)
        times, down, _ = divided_bare(bottom, shared)
        top, bottom = scaled_by(up, times), scaled_by(down, power)
    whole = content(top + bottom) if bottom[-1] > 0 else -content(top + bottom)
    return [number // whole for number in top], [number // whole for number in bottom]


def led_shares(poly, other):
    """A tuple (common, first, second): first times poly and second times other are common, a common part.

    Of two noughts all are nought.
    """
    ahead, behind = (poly, [1], []), (other, [], [1])
    while behind[0]:
        power, quotient, _ = divided_bare(ahead[0], behind[0])
        rest = [lessened(scaled_by(one, power), multiplied(quotient, two)) for one, two in zip(ahead, behind)]
        # Without this the numbers would grow to many more digits than the shares have.
        whole = content(rest[0] + rest[1] + rest[2])
        ahead, behind = behind, tuple([[number // whole for number in part] for part in rest])
    return ahead if ahead[0] else ([], [], [])
