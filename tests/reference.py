"""Polynomials and rows reckoned anew, in the plainest way, with Python's own fractions."""

from fractions import Fraction as Exact

from helpers import exact


def of(poly):
    """The numbers of a polynomial, without the noughts at its end."""
    return cut([exact(number) for number in poly])


def cut(numbers):
    numbers = list(numbers)
    while numbers and numbers[-1] == 0:
        numbers.pop()
    return numbers


def plus(one, other):
    many = max(len(one), len(other))
    return cut([(one[at] if at < len(one) else 0) + (other[at] if at < len(other) else 0) for at in range(many)])


def scaled(poly, number):
    return cut([number * part for part in poly])


def minus(one, other):
    return plus(one, scaled(other, -1))


def times(one, other):
    product = [Exact(0)] * (len(one) + len(other))
    for at, first in enumerate(one):
        for by, second in enumerate(other):
            product[at + by] += first * second
    return cut(product)


def worth(poly, number):
    return sum((part * number ** at for at, part in enumerate(poly)), Exact(0))


def put_in(poly, other):
    total, power = [], [Exact(1)]
    for part in poly:
        total, power = plus(total, scaled(power, part)), times(power, other)
    return total


def derived(poly):
    return cut([at * part for at, part in enumerate(poly)][1:])


def divided(poly, other):
    rest, quotient = list(poly), []
    while len(rest) >= len(other):
        step = [Exact(0)] * (len(rest) - len(other)) + [rest[-1] / other[-1]]
        quotient, rest = plus(quotient, step), minus(rest, times(step, other))
    return quotient, rest


def common(one, other):
    while other:
        one, other = other, divided(one, other)[1]
    return scaled(one, 1 / one[-1]) if one else []


def steps(rows):
    """The steps of rows of Python's own fractions."""
    left, done = [list(row) for row in rows], []
    for at in range(len(rows[0]) if rows else 0):
        row = next((row for row in left if row[at]), None)
        if row is None:
            continue
        left.remove(row)
        row = [number / row[at] for number in row]
        done, left = [less(other, row, at) for other in done] + [row], [less(other, row, at) for other in left]
    return done


def less(row, other, at):
    return [number - row[at] * part for number, part in zip(row, other)]
