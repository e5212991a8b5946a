"""Maps that turn one map into another one, and maps that commute with a map."""

from math import gcd

from affinewalk.arithmetic import solve, unit_inverse
from affinewalk.errors import OutOfRange
from affinewalk.kinds import is_between
from affinewalk.maps import compose, is_map
from affinewalk.units import unit_at, unit_terms, units_below


def conjugator(m, f, g):
    """Return a map u with compose(compose(inverse(u), f), u) = g, or None if there is none.

    For f = (a, b) and g = (c, d) a map (s, t) is one exactly if a = c and s*b - d is congruent to (a - 1)*t modulo m.
    """
    a, b = f
    c, d = g
    common = gcd(a - 1, m)
    shared = gcd(b, common)
    if a != c or gcd(d, common) != shared:
        return None
    # There is such a t exactly if s*b is congruent to d modulo common.
    step = common // shared
    start = d // shared * unit_inverse(step, b // shared) % step
    s = unit_at(m, unit_terms(m, start, step), 0)
    t, _ = solve(m, a - 1, s * b - d)
    return (s, t)


def commuting_count(m, f):
    """Return the number of maps that commute with f."""
    terms, shifts = commuting_family(m, f)
    return units_below(terms, m) * shifts


def commuting_at(m, f, index):
    """Return the map with this index among the maps that commute with f; raise OutOfRange for any other value."""
    terms, shifts = commuting_family(m, f)
    if not is_between(index, 0, units_below(terms, m) * shifts - 1):
        raise OutOfRange(index)
    a, b = f
    c = unit_at(m, terms, index // shifts)
    start, step = solve(m, a - 1, (c - 1) * b)
    return (c, start + index % shifts * step)


def commuting_index(m, f, g):
    """Return the index of g among the maps that commute with f, or None if g (any value) is not one of them."""
    if not is_map(m, g) or compose(m, f, g) != compose(m, g, f):
        return None
    terms, shifts = commuting_family(m, f)
    c, d = g
    return units_below(terms, c) * shifts + d // (m // shifts)


def commuting_family(m, f):
    """Return the terms (see units) of the multipliers of the maps that commute with f, and how many maps have each.

    A map (c, d) commutes with f = (a, b) exactly if (a - 1)*d is congruent to (c - 1)*b modulo m. With shifts for the
    greatest common divisor of a - 1 and m, c allows a d exactly if shifts divides (c - 1)*b, and then as many as that.
    """
    a, b = f
    shifts = gcd(a - 1, m)
    step = shifts // gcd(shifts, b)
    return unit_terms(m, 1 % step, step), shifts
