"""Certificates about periods, distances and joint distances, and what accepts or rejects them.

The functions that accept do not look for an answer of their own: they check what the certificate says.
"""

from math import gcd, lcm

from affinewalk.arithmetic import PRIMES, chain, prime_factors
from affinewalk.kinds import is_between, is_form, is_whole
from affinewalk.maps import iterate, power, reduce_map
from affinewalk.orbits import approach, joint_distance, laps_to, period


def period_certificate(m, f, x, *, divisor=None):
    """Return the valid period certificate (n, primes) of x modulo the divisor, or modulo m if there is none."""
    d = m if divisor is None else divisor
    return certificate_of(period(d, reduce_map(d, f), x % d))


def certificate_of(n):
    """Return the period certificate for the period n."""
    return (n, prime_factors(n))


def accepts_period(m, f, x, certificate, *, divisor=None):
    """Return whether the certificate (any value) is the valid period certificate of x modulo the divisor or m."""
    if not isinstance(certificate, tuple) or len(certificate) != 2:
        return False
    n, primes = certificate
    if not is_whole(n) or n < 1 or primes != prime_factors(n):
        return False
    # A period has no other prime factors: it divides m times a product of numbers p - 1 with primes p of m.
    if chain(n)[-1] != n:
        return False
    d = m if divisor is None else divisor
    return comes_back(m, f, x, n, d) and not any([comes_back(m, f, x, n // prime, d) for prime in primes])


def comes_back(m, f, x, n, divisor):
    """Return whether the image of x after n times is congruent to x modulo the divisor."""
    return (iterate(m, f, x, n) - x) % divisor == 0


def distance_certificate(m, f, x, y):
    """Return a valid distance certificate: "reached" with the distance, or "apart" if there is none."""
    d, n, k = approach(m, f, x, y)
    if d == m:
        return ("reached", k, certificate_of(n))
    return ("apart", d, prime_factors(m // d)[0], certificate_of(n), k)


def accepts_distance(m, f, x, y, certificate):
    """Return whether the certificate (any value) is a valid distance certificate."""
    question = (f, x, y)
    return accepts_reached(m, question, certificate) or accepts_apart(m, question, certificate)


def accepts_reached(m, question, certificate):
    """Return whether the certificate (any value) is a valid one of the form "reached" for the question."""
    if not is_form(certificate, "reached", 3):
        return False
    f, x, y = question
    _, n, found = certificate
    if not accepts_period(m, f, x, found):
        return False
    return is_between(n, 0, found[0] - 1) and iterate(m, f, x, n) == y


def accepts_apart(m, question, certificate):
    """Return whether the certificate (any value) is a valid one of the form "apart" for the question."""
    if not is_form(certificate, "apart", 5):
        return False
    f, x, y = question
    _, d, p, found, k = certificate
    if not is_between(d, 1, m) or p not in PRIMES or m % (d * p) != 0:
        return False
    if not accepts_period(m, f, x, found, divisor=d) or not is_between(k, 0, found[0] - 1):
        return False
    reached = iterate(m, f, x, k)
    if (reached - y) % d != 0:
        return False
    return laps_to(m, power(m, f, found[0]), reached, y, d * p, p) is None


def joint_certificate(m, first, second):
    """Return a valid joint certificate of two questions (map, x, y)."""
    one = distance_certificate(m, *first)
    other = distance_certificate(m, *second)
    if one[0] == "apart":
        return ("first", one)
    if other[0] == "apart":
        return ("second", other)
    n = joint_distance(m, first, second)
    if n is None:
        return ("clash", one, other)
    return ("reached", n, one[2], other[2])


def accepts_joint(m, first, second, certificate):
    """Return whether the certificate (any value) is a valid joint certificate of two questions (map, x, y)."""
    if is_form(certificate, "reached", 4):
        return accepts_both(m, first, second, certificate)
    if is_form(certificate, "first", 2):
        return accepts_apart(m, first, certificate[1])
    if is_form(certificate, "second", 2):
        return accepts_apart(m, second, certificate[1])
    if is_form(certificate, "clash", 3):
        return accepts_clash(m, first, second, certificate)
    return False


def accepts_both(m, first, second, certificate):
    """Return whether a tuple ("reached", .., .., ..) of any values is a valid joint certificate."""
    f, x, y = first
    g, u, v = second
    _, n, one, other = certificate
    if not accepts_period(m, f, x, one) or not accepts_period(m, g, u, other):
        return False
    if not is_between(n, 0, lcm(one[0], other[0]) - 1):
        return False
    return iterate(m, f, x, n) == y and iterate(m, g, u, n) == v


def accepts_clash(m, first, second, certificate):
    """Return whether a tuple ("clash", .., ..) of any values is a valid joint certificate."""
    _, one, other = certificate
    if not accepts_reached(m, first, one) or not accepts_reached(m, second, other):
        return False
    return (one[1] - other[1]) % gcd(one[2][0], other[2][0]) != 0
