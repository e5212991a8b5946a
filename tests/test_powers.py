import random
import unittest

from affinewalk.maps import power
from affinewalk.powers import BASE, Powers
from tests.support import LARGE_MODULI, SMALL_MODULI, KeepsArguments, all_maps, large_maps


class PowersTest(KeepsArguments, unittest.TestCase):
    def test_small_moduli(self):
        for m in SMALL_MODULI:
            for f in all_maps(m)[::3]:
                powers = Powers(m, f)
                for exponent in list(range(-40, 41)) + [BASE ** 2, BASE ** 2 - 1, -BASE ** 3, BASE ** 3 + 1]:
                    self.assert_exactly(powers.power(exponent), power(m, f, exponent))

    def test_large_exponents_in_any_order(self):
        for m in LARGE_MODULI:
            chosen = random.Random(m)
            for f in large_maps(m)[::5]:
                exponents = [10 ** 18, -10 ** 18, 1, -1, 0, 10 ** 30] + [chosen.randrange(-10 ** 18, 10 ** 18) for _ in range(20)]
                chosen.shuffle(exponents)
                powers = Powers(m, f)
                for exponent in exponents + exponents:
                    self.assert_exactly(powers.power(exponent), power(m, f, exponent))


if __name__ == "__main__":
    unittest.main()
