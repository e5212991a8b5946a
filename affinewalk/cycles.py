"""Fixed points and cycles of a map."""

from math import lcm

from affinewalk.arithmetic import PRIMES, prime_factors, solve
from affinewalk.maps import power, reduce_map
from affinewalk.orbits import order, period


def fixed_points(m, f):
    """Return (start, step) for the numbers that f keeps: those congruent to start modulo step; None if none."""
    a, b = f
    return solve(m, a - 1, -b)


def cycles(m, f):
    """Return the list of the tuples (length, number of cycles of this length), in ascending order."""
    numbers = {1: 1}
    for q in prime_powers(m):
        numbers = join_numbers(numbers, numbers_by_period(q, reduce_map(q, f)))
    return [(length, numbers[length] // length) for length in sorted(numbers)]


def has_full_period(m, f):
    """Return whether all numbers lie in one cycle."""
    return period(m, f, 0) == m


def prime_powers(m):
    """Return the list of the greatest powers of primes that divide m, without 1."""
    powers = []
    for prime in prime_factors(m):
        q = prime
        while m // q % prime == 0:
            q = q * prime
        powers.append(q)
    return powers


def numbers_by_period(q, f):
    """Return a dict from the periods of the numbers modulo q under f to how many numbers have this period.

    It tries each divisor of the order; they are few if q is a power of a prime.
    """
    numbers = {}
    for n in divisors(order(q, f)):
        kept = fixed_points(q, power(q, f, n))
        if kept is not None:
            # Of the numbers that come back after n times, those with a shorter period are counted already.
            exactly = q // kept[1] - sum([numbers[shorter] for shorter in numbers if n % shorter == 0])
            if exactly > 0:
                numbers[n] = exactly
    return numbers


def divisors(n):
    """Return the list of the divisors of n, a number without prime factors above MAX_PRIME, in ascending order."""
    found = [1]
    for prime in PRIMES:
        left = n
        fresh = found
        while left % prime == 0:
            left = left // prime
            fresh = [divisor * prime for divisor in fresh]
            found = found + fresh
    return sorted(found)


def join_numbers(one, other):
    """Return the dict from periods to how many numbers have them, for a product of two coprime moduli."""
    # A number is a pair of residues, and it is back when both of them are.
    joint = {}
    for n in one:
        for k in other:
            both = lcm(n, k)
            joint[both] = joint.get(both, 0) + one[n] * other[k]
    return joint
