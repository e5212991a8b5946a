import unittest

from affinewalk.arithmetic import chain, is_modulus, meet, prime_factors, solve, unit_inverse
from tests.support import LARGE_MODULI, KeepsArguments, all_maps, any_values, is_smooth, primes_of, smooth_numbers


class ModulusTest(KeepsArguments, unittest.TestCase):
    def test_example(self):
        self.assert_exactly([is_modulus(12), is_modulus(34), is_modulus(True)], [True, False, False])

    def test_small_numbers_by_trial(self):
        for n in range(2, 5000):
            self.assertIs(is_modulus(n), is_smooth(n), n)

    def test_numbers_from_one_down(self):
        for n in range(-3000, 2):
            self.assert_false_for(is_modulus, n)
        self.assert_false_for(is_modulus, -10 ** 9)

    def test_all_moduli_and_the_numbers_next_to_them(self):
        moduli = smooth_numbers(10 ** 9) - {1}
        self.assertGreater(len(moduli), 4000)
        for m in moduli:
            for n in (m - 1, m, m + 1):
                self.assertIs(is_modulus(n), n in moduli, n)

    def test_upper_limit(self):
        self.assertIs(is_modulus(2), True)
        self.assertIs(is_modulus(10 ** 9), True)
        for n in (10 ** 9 - 1, 10 ** 9 + 1, 2 * 10 ** 9, 2 ** 30, 3 ** 19, 10 ** 18, 2 ** 300, 1000194048):
            self.assert_false_for(is_modulus, n)

    def test_prime_powers(self):
        for prime in (2, 3, 5, 7, 11, 13):
            value = prime
            while value <= 10 ** 9:
                self.assertIs(is_modulus(value), True)
                value *= prime
            self.assert_false_for(is_modulus, value)

    def test_prime_factors_above_thirteen(self):
        for n in (17, 19, 34, 17 * 17, 4 * 17 * 17, 19 ** 3, 221, 2 * 999983, 999983, 999999937, 31607 * 31607, 29 * 31,
                  17 * 13 ** 6, 58823529 * 17):
            self.assert_false_for(is_modulus, n)

    def test_any_other_value(self):
        for value in any_values() + [[12], (12,), {12: 12}, "12", 12.0]:
            self.assert_false_for(is_modulus, value)

    def test_by_name(self):
        self.assertIs(is_modulus(value=12), True)


class ChainTest(KeepsArguments, unittest.TestCase):
    def test_document(self):
        self.assert_exactly(chain(12), [1, 2, 4, 12])
        self.assertEqual(chain(m=12), [1, 2, 4, 12])

    def test_edges(self):
        self.assertEqual(chain(2), [1, 2])
        self.assertEqual(chain(13), [1, 13])
        self.assertEqual(chain(81), [1, 3, 9, 27, 81])
        self.assertEqual(chain(10 ** 9), [2 ** k for k in range(10)] + [2 ** 9 * 5 ** k for k in range(1, 10)])
        self.assertEqual(chain(2 ** 29), [2 ** k for k in range(30)])

    def test_smallest_factor_of_what_is_left(self):
        for m in sorted(smooth_numbers(3000) - {1}) + LARGE_MODULI:
            wanted = [1]
            while wanted[-1] != m:
                left = m // wanted[-1]
                wanted.append(wanted[-1] * min(d for d in range(2, 14) if left % d == 0))
            self.assert_exactly(self.call(chain, m), wanted)

    def test_a_changed_list_changes_no_later_answer(self):
        first = chain(12)
        first.append(24)
        first[0] = 7
        self.assertEqual(chain(12), [1, 2, 4, 12])
        self.assertIsNot(chain(12), chain(12))


class UnitInverseTest(unittest.TestCase):
    def test_against_python(self):
        for m in range(2, 60):
            for a, b in all_maps(m):
                if b == 0:
                    self.assertEqual(unit_inverse(m, a), pow(a, -1, m))


class ResiduesTest(unittest.TestCase):
    def test_prime_factors(self):
        for n in smooth_numbers(5000) | {10 ** 18, 30030 ** 3, *LARGE_MODULI}:
            self.assertEqual(prime_factors(n), tuple(primes_of(n)))

    def test_solve_by_counting(self):
        for m in range(1, 31):
            for factor in range(-m, m + 2):
                for wanted in range(-m, m + 2):
                    numbers = [x for x in range(m) if (factor * x - wanted) % m == 0]
                    found = solve(m, factor, wanted)
                    if found is None:
                        self.assertEqual(numbers, [])
                    else:
                        start, step = found
                        self.assertTrue(m % step == 0 and 0 <= start < step)
                        self.assertEqual(numbers, list(range(start, m, step)))

    def test_meet_by_counting(self):
        for n in range(1, 16):
            for k in range(1, 16):
                for a in range(n):
                    for b in range(k):
                        both = [x for x in range(n * k) if x % n == a and x % k == b]
                        found = meet((a, n), (b, k))
                        if found is None:
                            self.assertEqual(both, [])
                        else:
                            self.assertEqual(both, list(range(found[0], n * k, found[1])))
                            self.assertLess(found[0], found[1])
