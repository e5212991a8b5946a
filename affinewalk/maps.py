"""Affine maps modulo m: tuples (a, b) that send x to (a*x + b) mod m."""

from math import gcd

from affinewalk.arithmetic import unit_inverse
from affinewalk.kinds import is_between


def is_map(m, value):
    """Return whether the value (any value) is a map modulo m."""
    if not isinstance(value, tuple) or len(value) != 2:
        return False
    a, b = value
    return is_between(a, 0, m - 1) and is_between(b, 0, m - 1) and gcd(a, m) == 1


def apply_map(m, f, x):
    """Return the image of x under f."""
    a, b = f
    return (a * x + b) % m


def compose(m, first, second):
    """Return the map that applies first and then second."""
    a, b = first
    c, d = second
    return (a * c % m, (c * b + d) % m)


def inverse(m, f):
    """Return the map that takes every image under f back."""
    a, b = f
    back = unit_inverse(m, a)
    return (back, -back * b % m)


def power(m, f, exponent):
    """Return the map that applies f as often as the exponent says; a negative exponent applies the inverse."""
    square = f if exponent >= 0 else inverse(m, f)
    left = abs(exponent)
    result = (1, 0)
    while left > 0:
        if left & 1 == 1:
            result = compose(m, result, square)
        square = compose(m, square, square)
        left = left // 2
    return result


def iterate(m, f, x, count):
    """Return the image of x under the power of f with exponent count."""
    return apply_map(m, power(m, f, count), x)


def reduce_map(divisor, f):
    """Return what the map is modulo a divisor of its modulus."""
    a, b = f
    return (a % divisor, b % divisor)
