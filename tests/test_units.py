import random
import unittest
from math import gcd

from affinewalk.units import unit_at, unit_terms, units_below
from tests.support import LARGE_MODULI, primes_of

MODULI = [2, 3, 4, 8, 9, 12, 13, 30, 36, 60, 210, 1155, 2310]


def count_of_units(m, step):
    """The number of units modulo m in one class of units modulo step, from the sizes of the two groups."""
    count = m // step
    for prime in primes_of(m):
        if step % prime != 0:
            count = count // prime * (prime - 1)
    return count


class UnitsTest(unittest.TestCase):
    def test_small_moduli_by_counting(self):
        for m in MODULI:
            for step in [d for d in range(1, m + 1) if m % d == 0]:
                for start in [n for n in range(step) if gcd(n, step) == 1][:7]:
                    units = [n for n in range(m) if gcd(n, m) == 1 and n % step == start]
                    terms = unit_terms(m, start, step)
                    for bound in range(0, m + 1, 1 + m // 100):
                        self.assertEqual(units_below(terms, bound), len([n for n in units if n < bound]))
                    self.assertEqual(units_below(terms, m), len(units))
                    self.assertEqual([unit_at(m, terms, k) for k in range(min(len(units), 60))], units[:60])
                    self.assertEqual(unit_at(m, terms, len(units) - 1), units[-1])

    def test_large_moduli(self):
        for m in LARGE_MODULI:
            chosen = random.Random(m)
            step = 1
            while step <= m:
                start = chosen.randrange(step)
                while gcd(start, step) != 1:
                    start = chosen.randrange(step)
                terms = unit_terms(m, start, step)
                count = units_below(terms, m)
                self.assertEqual(count, count_of_units(m, step))
                for index in {0, count - 1, count // 2, chosen.randrange(count)}:
                    unit = unit_at(m, terms, index)
                    self.assertTrue(gcd(unit, m) == 1 and unit % step == start and 0 <= unit < m)
                    self.assertEqual(units_below(terms, unit), index)
                step = step * chosen.choice(primes_of(m // step)) if step < m else m + 1
