"""Periods, orders and distances: how long a map takes to lead back, and from one number to another."""

from math import lcm

from affinewalk.arithmetic import chain, meet
from affinewalk.maps import apply_map, iterate, power


def period(m, f, x):
    """Return the least n >= 1 with f^n(x) = x."""
    _, n, _ = approach(m, f, x, x)
    return n


def order(m, f):
    """Return the least n >= 1 for which f^n is the identity."""
    # An affine map that keeps 0 and 1 is the identity.
    return lcm(period(m, f, 0), period(m, f, 1))


def distance(m, f, x, y):
    """Return the least n >= 0 with f^n(x) = y, or None if there is none."""
    d, _, k = approach(m, f, x, y)
    return k if d == m else None


def joint_distance(m, first, second):
    """Return the least n >= 0 that answers both questions (map, x, y), or None if there is none."""
    f, x, y = first
    g, u, v = second
    d, n, k = approach(m, f, x, y)
    other_d, other_n, other_k = approach(m, g, u, v)
    if d != m or other_d != m:
        return None
    common = meet((k, n), (other_k, other_n))
    return None if common is None else common[0]


def map_distance(m, f, g):
    """Return the least n >= 0 with f^n = g, or None if there is none."""
    return joint_distance(m, (f, 0, apply_map(m, g, 0)), (f, 1, apply_map(m, g, 1)))


def approach(m, f, x, y):
    """Return (d, n, k): the last divisor d of chain(m) modulo which f leads from x to y, and for this d the period n
    of x and the distance k. If d is not m, no k + t*n leads to y modulo the next divisor of the chain.

    From each divisor to the next one, both are found by going around the period a few times: the numbers after whole
    rounds are congruent modulo d. So there are at most as many of them modulo the next divisor as its prime says.
    """
    d, n, k = 1, 1, 0
    # lap is the power of f with exponent n, and reached is the image of x after k times.
    lap, reached = f, x
    for finer in chain(m)[1:]:
        most = finer // d
        laps = laps_to(m, lap, reached, y, finer, most)
        if laps is None:
            return d, n, k
        around = 1 + laps_to(m, lap, apply_map(m, lap, x), x, finer, most)
        reached = iterate(m, lap, reached, laps)
        k = k + laps * n
        lap = power(m, lap, around)
        d, n = finer, n * around
    return d, n, k


def laps_to(m, lap, x, y, divisor, most):
    """Return the least number below most of times that lap leads from x to y modulo the divisor, or None."""
    for laps in range(most):
        if (x - y) % divisor == 0:
            return laps
        x = apply_map(m, lap, x)
    return None
