"""Maps through given points, and certificates that no map goes through them.

A map that goes through two points (x_0, y_0) and (x, y) has a multiplier whose product with x - x_0 is congruent to
y - y_0. So each point says of the multiplier what it is modulo some divisor of m.
"""

from math import gcd

from affinewalk.arithmetic import PRIMES, meet, prime_factors, solve
from affinewalk.errors import OutOfRange
from affinewalk.kinds import is_between, is_form
from affinewalk.maps import apply_map, is_map
from affinewalk.units import unit_at, unit_terms, units_below


def maps_through(m, points):
    """Return (start, step, count) of the multipliers of the maps through the points, or None if there is no map."""
    found = multipliers(m, points)
    if found is None:
        return None
    start, step = found
    terms = unit_terms(m, start, step)
    return (unit_at(m, terms, 0), step, units_below(terms, m))


def map_through(m, points, index):
    """Return the map with this index among the maps through the points; raise OutOfRange for any other value."""
    found = multipliers(m, points)
    if found is None:
        raise OutOfRange(index)
    start, step = found
    terms = unit_terms(m, start, step)
    if not is_between(index, 0, units_below(terms, m) - 1):
        raise OutOfRange(index)
    a = unit_at(m, terms, index)
    x, y = points[0]
    return (a, (y - a * x) % m)


def index_through(m, points, f):
    """Return the index of f among the maps through the points, or None if f (any value) is not one of them."""
    if not is_map(m, f) or not all([apply_map(m, f, x) == y for x, y in points]):
        return None
    start, step = multipliers(m, points)
    return units_below(unit_terms(m, start, step), f[0])


def multipliers(m, points):
    """Return (start, step) such that the multipliers are the units congruent to start modulo step, or None if none."""
    common = (0, 1)
    for i in range(len(points)):
        found = forced(m, points, i)
        if found is None:
            return None
        common = meet(common, found)
        if common is None:
            return None
    start, step = common
    return common if gcd(start, step) == 1 else None


def forced(m, points, i):
    """Return (value, d): the point i forces the multiplier to be the value modulo d. None if it allows none."""
    x, y = points[i]
    first_x, first_y = points[0]
    return solve(m, x - first_x, y - first_y)


def misfit_certificate(m, points):
    """Return a valid misfit certificate, or None if a map goes through the points."""
    said = [forced(m, points, i) for i in range(len(points))]
    for i, found in enumerate(said):
        if found is None:
            return ("point", i)
    for i, (value, d) in enumerate(said):
        for p in prime_factors(d):
            if value % p == 0:
                return ("unit", i, p)
    return first_clash(said)


def first_clash(said):
    """Return the misfit certificate for the first two points that force different values, or None if there are none."""
    for j, (value, d) in enumerate(said):
        for i in range(j):
            other_value, other_d = said[i]
            common = gcd(d, other_d)
            if (value - other_value) % common != 0:
                return ("clash", i, j, common)
    return None


def accepts_misfit(m, points, certificate):
    """Return whether the certificate (any value) is a valid misfit certificate."""
    if is_form(certificate, "point", 2):
        return accepts_point(m, points, certificate)
    if is_form(certificate, "clash", 4):
        return accepts_clash(m, points, certificate)
    if is_form(certificate, "unit", 3):
        return accepts_unit(m, points, certificate)
    return False


def accepts_point(m, points, certificate):
    """Return whether a tuple ("point", i) of any values is a valid misfit certificate."""
    _, i = certificate
    return is_between(i, 0, len(points) - 1) and forced(m, points, i) is None


def accepts_clash(m, points, certificate):
    """Return whether a tuple ("clash", i, j, d) of any values is a valid misfit certificate."""
    _, i, j, d = certificate
    if not is_between(d, 1, m):
        return False
    value = forced_modulo(m, points, i, d)
    other = forced_modulo(m, points, j, d)
    return value is not None and other is not None and value != other


def accepts_unit(m, points, certificate):
    """Return whether a tuple ("unit", i, p) of any values is a valid misfit certificate."""
    _, i, p = certificate
    return p in PRIMES and forced_modulo(m, points, i, p) == 0


def forced_modulo(m, points, i, divisor):
    """Return what the point with index i (any value) forces the multiplier to be modulo the divisor, or None."""
    if not is_between(i, 0, len(points) - 1):
        return None
    found = forced(m, points, i)
    if found is None or found[1] % divisor != 0:
        return None
    return found[0] % divisor
