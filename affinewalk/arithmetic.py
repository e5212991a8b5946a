"""Moduli, their chains of divisors, inverses of units, and numbers with given residues.

Where a tuple (start, step) describes numbers, these are all that are congruent to start modulo step; step is at least
1, and start is from 0 to step - 1.
"""

from math import gcd

from affinewalk.limits import MAX_MODULUS
from affinewalk.kinds import is_between

# All primes up to MAX_PRIME, in ascending order.
PRIMES = (2, 3, 5, 7, 11, 13)


def is_modulus(value):
    """Return whether the value (any value) is a modulus."""
    return is_between(value, 2, MAX_MODULUS) and chain(value)[-1] == value


def chain(m):
    """Return the divisors of m from 1 on, each the previous one times the smallest prime factor of what is left."""
    divisors = [1]
    left = m
    for prime in PRIMES:
        while left % prime == 0:
            divisors.append(divisors[-1] * prime)
            left = left // prime
    return divisors


def unit_inverse(m, a):
    """Return the number from 0 to m - 1 whose product with the unit a is congruent to 1 modulo m."""
    above, below = a, m
    # Modulo m, above is always factor times a, and below is next_factor times a.
    factor, next_factor = 1, 0
    while below > 0:
        quotient = above // below
        above, below = below, above - quotient * below
        factor, next_factor = next_factor, factor - quotient * next_factor
    return factor % m


def prime_factors(n):
    """Return the tuple of the primes up to MAX_PRIME that divide n, in ascending order."""
    return tuple([prime for prime in PRIMES if n % prime == 0])


def solve(m, factor, wanted):
    """Return (start, step) for the numbers whose products with factor are congruent to wanted modulo m, or None."""
    common = gcd(factor, m)
    if wanted % common != 0:
        return None
    step = m // common
    return (wanted // common * unit_inverse(step, factor // common) % step, step)


def meet(one, other):
    """Return (start, step) for the numbers that both tuples (start, step) describe, or None if there are none."""
    start, step = one
    other_start, other_step = other
    found = solve(other_step, step, other_start - start)
    if found is None:
        return None
    steps_up, gap = found
    return (start + steps_up * step, step * gap)
