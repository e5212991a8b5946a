import unittest

from affinewalk import limits
from affinewalk.arithmetic import PRIMES

LIMITS = {
    "MAX_MODULUS": 10 ** 9, "MAX_PRIME": 13, "MAX_WATCH": 60, "MAX_NODES": 8, "MAX_EDGES": 24, "MAX_CANDIDATES": 6,
    "MAX_ROWS": 2000, "MAX_ITEMS": 200, "MAX_DEPTH": 200, "MAX_EXPONENT": 10 ** 18,
}


class LimitsTest(unittest.TestCase):
    def test_values(self):
        for name in LIMITS:
            self.assertEqual(getattr(limits, name), LIMITS[name])
            self.assertIs(type(getattr(limits, name)), int)

    def test_primes_end_at_the_limit(self):
        naive = [n for n in range(2, limits.MAX_PRIME + 1) if all(n % d != 0 for d in range(2, n))]
        self.assertEqual(list(PRIMES), naive)
