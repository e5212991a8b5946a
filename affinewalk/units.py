"""The units modulo m that are congruent to start modulo step, counted and found by their index.

Here step is a divisor of m, and start is from 0 to step - 1 and coprime to step. The units are described by terms
(sign, first, gap): among the numbers first, first + gap, first + 2*gap, .., each number counts once for the sign 1 and
is taken off once for the sign -1. In total each unit counts once, and every other number not at all.
"""

from affinewalk.arithmetic import meet, prime_factors


def unit_terms(m, start, step):
    """Return the list of the terms for the units modulo m that are congruent to start modulo step."""
    terms = [(1, start, step)]
    for prime in prime_factors(m):
        if step % prime != 0:
            terms = terms + [multiples_taken_off(term, prime) for term in terms]
    return terms


def multiples_taken_off(term, prime):
    """Return the term that takes off what the term counts among the multiples of the prime."""
    sign, first, gap = term
    multiple, wide = meet((first, gap), (0, prime))
    return (-sign, multiple, wide)


def units_below(terms, bound):
    """Return how many units from 0 to bound - 1 the terms describe."""
    return sum([sign * ((bound - first + gap - 1) // gap) for sign, first, gap in terms])


def unit_at(m, terms, index):
    """Return the unit with this index, from 0, among those from 0 to m - 1 that the terms describe."""
    low, high = 0, m - 1
    while low < high:
        middle = (low + high) // 2
        if units_below(terms, middle + 1) > index:
            high = middle
        else:
            low = middle + 1
    return low
