import random
import unittest
from math import gcd, lcm

from affinewalk.cycles import cycles, divisors, fixed_points, has_full_period, prime_powers
from affinewalk.maps import apply_map, inverse, iterate, power
from affinewalk.orbits import order, period
from tests.support import (LARGE_MODULI, SMALL_MODULI, KeepsArguments, Number, Row, all_maps, large_maps, orbit, primes_of,
                           structured_maps)


def many_maps(m):
    return structured_maps(m) + large_maps(m)[::3]


def cycles_by_counting(m, f):
    numbers, seen = {}, set()
    for x in range(m):
        if x not in seen:
            cycle = orbit(m, f, x)
            seen.update(cycle)
            numbers[len(cycle)] = numbers.get(len(cycle), 0) + 1
    return sorted(numbers.items())


def has_full_period_by_conditions(m, f):
    """The known conditions for a full period: b is a unit, and a is 1 modulo each prime of m, and modulo 4 if 4 divides m."""
    a, b = f
    return (gcd(b, m) == 1 and all((a - 1) % prime == 0 for prime in primes_of(m))
            and (m % 4 != 0 or (a - 1) % 4 == 0))


class CyclesTest(KeepsArguments, unittest.TestCase):
    def test_examples(self):
        self.assert_exactly(cycles(9, (2, 0)), [(1, 1), (2, 1), (6, 1)])

    def test_by_name(self):
        self.assertEqual(fixed_points(f=(2, 0), m=9), (0, 9))
        self.assertEqual(cycles(f=(2, 0), m=9), [(1, 1), (2, 1), (6, 1)])
        self.assertIs(has_full_period(f=(2, 0), m=9), False)

    def test_small_moduli_number_by_number(self):
        for m in SMALL_MODULI + [18, 20, 24, 36]:
            for f in all_maps(m):
                numbers = [x for x in range(m) if (f[0] * x + f[1]) % m == x]
                found = self.call(fixed_points, m, f)
                if found is None:
                    self.assertEqual(numbers, [])
                else:
                    self.assertTrue(m % found[1] == 0 and 0 <= found[0] < found[1])
                    self.assert_exactly(found, (numbers[0], m // len(numbers)))
                    self.assertEqual(numbers, list(range(found[0], m, found[1])))
                wanted = cycles_by_counting(m, f)
                self.assert_exactly(self.call(cycles, m, f), wanted)
                self.assertIs(self.call(has_full_period, m, f), wanted == [(m, 1)])

    def test_modulus_two(self):
        self.assert_exactly([fixed_points(2, (1, 0)), fixed_points(2, (1, 1))], [(0, 1), None])
        self.assert_exactly([cycles(2, (1, 0)), cycles(2, (1, 1))], [[(1, 2)], [(2, 1)]])
        self.assert_exactly([has_full_period(2, (1, 0)), has_full_period(2, (1, 1))], [False, True])

    def test_middle_moduli_with_all_primes(self):
        for m in (2310, 1260, 1716, 2048, 2187):
            for f in structured_maps(m)[:14]:
                self.assertEqual(cycles(m, f), cycles_by_counting(m, f))

    def test_known_cycles(self):
        for m in LARGE_MODULI:
            self.assertEqual(cycles(m, (1, 0)), [(1, m)])
            self.assertEqual(cycles(m, (1, 1)), [(m, 1)])
            for b in (2, 7, 12, m // 2, m - 6):
                common = gcd(b, m)
                self.assertEqual(cycles(m, (1, b)), [(m // common, common)])
            kept = 2 if m % 2 == 0 else 1
            self.assertEqual(cycles(m, (m - 1, 0)), [(1, kept), (2, (m - kept) // 2)])
            self.assertEqual(cycles(m, (m - 1, 1)), [(2, m // 2)] if kept == 2 else [(1, 1), (2, (m - 1) // 2)])
        self.assertEqual(cycles(13 ** 8, (2, 0)), [(1, 1)] + [(12 * 13 ** k, 1) for k in range(8)])
        self.assertEqual(cycles(2 ** 29, (5, 0)), [(1, 4), (2, 2)] + [(2 ** k, 2) for k in range(2, 28)])

    def test_agreement_for_large_moduli(self):
        for m in LARGE_MODULI:
            chosen = random.Random(m)
            for f in many_maps(m):
                found = self.call(cycles, m, f)
                self.assertIs(type(found), list)
                self.assertEqual({type(row) for row in found}, {tuple})
                self.assertEqual({type(n) for row in found for n in row}, {int})
                lengths = [length for length, _ in found]
                self.assertEqual(lengths, sorted(set(lengths)))
                self.assertTrue(all(length >= 1 and number >= 1 for length, number in found))
                self.assertEqual(sum(length * number for length, number in found), m)
                self.assertEqual(lcm(*lengths), order(m, f))
                self.assertEqual(cycles(m, inverse(m, f)), found)
                for x in (0, 1, m - 1, chosen.randrange(m)):
                    self.assertIn(period(m, f, x), lengths)
                for n in lengths[:3] + lengths[-2:] + [1, 2, 12, order(m, f)]:
                    back = fixed_points(m, power(m, f, n))
                    kept = 0 if back is None else m // back[1]
                    self.assertEqual(sum(length * number for length, number in found if n % length == 0), kept)

    def test_fixed_points_of_large_moduli(self):
        for m in LARGE_MODULI:
            for f in many_maps(m):
                found = self.call(fixed_points, m, f)
                self.assertEqual(found is None, f[1] % gcd(f[0] - 1, m) != 0)
                self.assertEqual(found is None, cycles(m, f)[0][0] != 1)
                if found is not None:
                    start, step = found
                    self.assertEqual([type(found), type(start), type(step)], [tuple, int, int])
                    self.assertTrue(m % step == 0 and 0 <= start < step)
                    self.assertEqual(cycles(m, f)[0], (1, m // step))
                    for x in (start, start + step * (m // step - 1), start + step * (m // step // 2)):
                        self.assertEqual(apply_map(m, f, x), x)
                    if step > 1:
                        self.assertNotEqual(apply_map(m, f, start + 1 if start + 1 < m else 0), start + 1)

    def test_full_period_of_large_moduli(self):
        found = []
        for m in LARGE_MODULI:
            for f in many_maps(m) + [(1 + 4 * 30030 * k if m != 30030 else 1, b) for k in (1, 2) for b in (1, 17, 2)]:
                if gcd(f[0], m) == 1:
                    answer = self.call(has_full_period, m, f)
                    self.assertIs(answer, has_full_period_by_conditions(m, f))
                    self.assertIs(answer, cycles(m, f) == [(m, 1)])
                    self.assertEqual(answer, order(m, f) == m and iterate(m, f, 0, m) == 0 and period(m, f, 0) == m)
                    found.append(answer)
        self.assertGreater(found.count(True), 30)
        self.assertGreater(found.count(False), 30)

    def test_derived_kinds_give_plain_results(self):
        m, f = Number(9), Row((Number(2), Number(0)))
        self.assert_exactly([fixed_points(m, f), cycles(m, f)], [(0, 9), [(1, 1), (2, 1), (6, 1)]])
        self.assert_exactly(fixed_points(Number(9), Row((Number(1), Number(0)))), (0, 1))

    def test_a_changed_list_changes_no_later_answer(self):
        for m in (9, 10 ** 9):
            first = cycles(m, (m - 1, 0))
            wanted = list(first)
            first.append((7, 7))
            first[0] = None
            self.assertEqual(cycles(m, (m - 1, 0)), wanted)
            self.assertIsNot(cycles(m, (m - 1, 0)), cycles(m, (m - 1, 0)))

    def test_prime_powers_and_divisors(self):
        self.assertEqual([prime_powers(m) for m in (2, 12, 10 ** 9, 30030)],
                         [[2], [4, 3], [2 ** 9, 5 ** 9], [2, 3, 5, 7, 11, 13]])
        for n in (1, 2, 12, 13, 60, 72, 1001, 2310):
            self.assertEqual(divisors(n), [d for d in range(1, n + 1) if n % d == 0])
