"""Polynomials of INTEGERS, as lists from the power 0 on without a nought at their end.

The other files reckon with these, since INTEGERS over one bottom are far cheaper than
Ratios, each of which is brought to lowest terms. Nothing is checked here.
"""

from math import gcd


def raised(number, many):
    """The INTEGER taken many times as a factor."""
    power = 1
    for _ in range(many):
        power = power * number
    return power


def trimmed(numbers):
    """The INTEGERS without the noughts at their end."""
    many = len(numbers)
    while many > 0 and numbers[many - 1] == 0:
        many = many - 1
    return list(numbers[:many])


def content(numbers):
    """The greatest common divisor of INTEGERS, 0 if all are 0."""
    shared = 0
    for number in numbers:
        shared = gcd(shared, number)
        if shared == 1:
            return 1
    return shared


def without_content(numbers):
    """The INTEGERS divided by their greatest common divisor."""
    shared = content(numbers)
    return [number // shared for number in numbers] if shared > 1 else list(numbers)


def bare(numbers):
    """The bare one of a polynomial: no common divisor, the head above 0; nought of nought."""
    poly = without_content(trimmed(numbers))
    return negated(poly) if poly and poly[-1] < 0 else poly


def negated(poly):
    """Each number with the other sign."""
    return [-number for number in poly]


def scaled_by(poly, number):
    """The polynomial times an INTEGER."""
    return [number * part for part in poly] if number != 0 else []


def summed(first, second):
    """The sum of both."""
    short, long = (first, second) if len(first) <= len(second) else (second, first)
    return trimmed([one + other for one, other in zip(short, long)] + long[len(short):])


def lessened(first, second):
    """The first one less the second one."""
    return summed(first, negated(second))


def multiplied(first, second):
    """The product of both."""
    if not first or not second:
        return []
    wide, last = len(second), len(first) - 1
    return [
        sum([first[at] * second[power - at] for at in range(max(0, power - wide + 1), min(power, last) + 1)])
        for power in range(last + wide)
    ]


def multiplied_all(polys):
    """The product of all, 1 of none."""
    product = [1]
    for poly in polys:
        product = multiplied(product, poly)
    return product


def derived_bare(poly):
    """The polynomial derived."""
    return [at * number for at, number in enumerate(poly)][1:]


def put_over(poly, up, down, many):
    """The sum of all poly[i] * up ** i * down ** (many - i).

    This is up over down put in, times down as often as many tells, which is at least the degree.
    """
    total, power = [], [1]
    for at in range(many, -1, -1):
        number = poly[at] if at < len(poly) else 0
        total = summed(multiplied(total, up), scaled_by(power, number))
        power = multiplied(power, down)
    return total


def worth_over(poly, up, down, many):
    """The INTEGER that put_over comes to for two INTEGERS."""
    total, power = 0, 1
    for at in range(many, -1, -1):
        number = poly[at] if at < len(poly) else 0
        total = total * up + number * power
        power = power * down
    return total


def divided_bare(poly, other):
    """A tuple (power, quotient, rest): power, an INTEGER, times poly is quotient times other, and rest."""
    power, quotient, rest, head = 1, [], list(poly), other[-1]
    for shift in range(len(poly) - len(other), -1, -1):
        shared = gcd(head, rest[-1])
        up, down = head // shared, rest[-1] // shared
        ahead = [up * number for number in rest[:shift]]
        rest = ahead + [up * number - down * part for number, part in zip(rest[shift:-1], other)]
        quotient = [down] + scaled_by(quotient, up)
        power = power * up
    return power, trimmed(quotient), trimmed(rest)
