import random
import unittest
from math import gcd, lcm

from affinewalk.maps import apply_map, compose, inverse, iterate, power
from affinewalk.orbits import approach, distance, joint_distance, map_distance, order, period
from tests.support import (LARGE_MODULI, SMALL_MODULI, KeepsArguments, Number, Row, all_maps, large_maps, orbit, primes_of,
                           structured_maps)

COUNTS = [0, 1, 2, 3, 12, 1000, 10 ** 9, 10 ** 18, 123456789012345678]


def many_maps(m):
    return structured_maps(m) + large_maps(m)[::3]


class ExamplesTest(KeepsArguments, unittest.TestCase):
    def test_examples(self):
        self.assert_exactly(period(8, (3, 1), 0), 4)
        self.assert_exactly(order(9, (2, 0)), 6)
        self.assert_exactly(distance(8, (3, 1), 0, 5), 3)
        self.assert_exactly(joint_distance(9, ((4, 1), 0, 6), ((2, 0), 1, 8)), 15)

    def test_by_name(self):
        self.assertEqual(period(x=0, f=(3, 1), m=8), 4)
        self.assertEqual(order(f=(2, 0), m=9), 6)
        self.assertEqual(distance(y=5, x=0, f=(3, 1), m=8), 3)
        self.assertEqual(joint_distance(second=((2, 0), 1, 8), first=((4, 1), 0, 6), m=9), 15)
        self.assertEqual(map_distance(g=(1, 4), f=(3, 1), m=8), 2)

    def test_modulus_two(self):
        self.assert_exactly([period(2, (1, 0), 1), period(2, (1, 1), 1), order(2, (1, 0)), order(2, (1, 1))], [1, 2, 1, 2])
        self.assert_exactly([distance(2, (1, 0), 0, 0), distance(2, (1, 1), 0, 0), distance(2, (1, 1), 1, 0)], [0, 0, 1])
        self.assertIsNone(distance(2, (1, 0), 0, 1))
        self.assert_exactly(joint_distance(2, ((1, 1), 0, 1), ((1, 1), 1, 0)), 1)
        self.assertIsNone(joint_distance(2, ((1, 1), 0, 1), ((1, 1), 1, 1)))
        self.assert_exactly([map_distance(2, (1, 1), (1, 0)), map_distance(2, (1, 1), (1, 1))], [0, 1])
        self.assertIsNone(map_distance(2, (1, 0), (1, 1)))

    def test_derived_kinds_give_plain_results(self):
        m, f, x, y = Number(8), Row((Number(3), Number(1))), Number(0), Number(5)
        self.assert_exactly([period(m, f, x), order(m, f), distance(m, f, x, y), distance(m, f, x, x)], [4, 4, 3, 0])
        question = Row((f, x, y))
        self.assert_exactly([joint_distance(m, question, question), map_distance(m, f, f)], [3, 1])


class CountingTest(KeepsArguments, unittest.TestCase):
    def test_periods_and_distances_number_by_number(self):
        for m in SMALL_MODULI:
            for f in all_maps(m):
                for x in range(m):
                    numbers = orbit(m, f, x)
                    self.assert_exactly(self.call(period, m, f, x), len(numbers))
                    places = {y: n for n, y in enumerate(numbers)}
                    for y in range(m):
                        self.assert_exactly(self.call(distance, m, f, x, y), places.get(y))

    def test_orders_and_distances_among_maps_map_by_map(self):
        for m in SMALL_MODULI[:9]:
            maps = all_maps(m)
            for f in maps:
                powers = [(1, 0)]
                while compose(m, powers[-1], f) != (1, 0):
                    powers.append(compose(m, powers[-1], f))
                self.assert_exactly(self.call(order, m, f), len(powers))
                places = {g: n for n, g in enumerate(powers)}
                for g in maps:
                    self.assert_exactly(self.call(map_distance, m, f, g), places.get(g))

    def test_joint_distances_number_by_number(self):
        for m in (2, 3, 4, 6, 8, 9, 12, 15):
            chosen = random.Random(m)
            maps = all_maps(m)
            for _ in range(150):
                f, g = chosen.choice(maps), chosen.choice(maps)
                x, u = chosen.randrange(m), chosen.randrange(m)
                pairs = [(x, u)]
                while (apply_map(m, f, pairs[-1][0]), apply_map(m, g, pairs[-1][1])) != (x, u):
                    pairs.append((apply_map(m, f, pairs[-1][0]), apply_map(m, g, pairs[-1][1])))
                for y in range(m):
                    v = chosen.randrange(m)
                    wanted = pairs.index((y, v)) if (y, v) in pairs else None
                    self.assert_exactly(self.call(joint_distance, m, (f, x, y), (g, u, v)), wanted)

    def test_approach_number_by_number(self):
        for m in (2, 4, 6, 8, 9, 12, 18, 24):
            for f in all_maps(m):
                for x in range(m):
                    for y in range(m):
                        d, n, k = approach(m, f, x, y)
                        residues = [number % d for number in orbit(m, f, x)]
                        self.assertEqual(n, len(set(residues)))
                        self.assertEqual(k, residues.index(y % d))
                        if d != m:
                            p = primes_of(m // d)[0]
                            self.assertNotIn(y % (d * p), [number % (d * p) for number in orbit(m, f, x)])


class AgreementTest(KeepsArguments, unittest.TestCase):
    """What periods, orders and distances have to do with one another, for moduli too large to count."""

    def test_periods_are_the_least(self):
        for m in LARGE_MODULI:
            for f in many_maps(m):
                for x in (0, 1, m - 1, m // 3):
                    n = self.call(period, m, f, x)
                    self.assertIs(type(n), int)
                    self.assertTrue(1 <= n <= m)
                    self.assertEqual(iterate(m, f, x, n), x)
                    for q in primes_of(n):
                        self.assertNotEqual(iterate(m, f, x, n // q), x)
                    self.assertEqual(period(m, f, apply_map(m, f, x)), n)
                    self.assertEqual(period(m, inverse(m, f), x), n)

    def test_orders_are_the_least(self):
        for m in LARGE_MODULI:
            for f in many_maps(m):
                n = self.call(order, m, f)
                self.assertIs(type(n), int)
                self.assertEqual(power(m, f, n), (1, 0))
                for q in primes_of(n):
                    self.assertNotEqual(power(m, f, n // q), (1, 0))
                self.assertEqual(order(m, inverse(m, f)), n)
                self.assertEqual([n % period(m, f, x) for x in (0, 1, m - 1, m // 2)], [0, 0, 0, 0])
                for e in (2, 3, 60, 30030):
                    self.assertEqual(order(m, power(m, f, e)), n // gcd(n, e))

    def test_distances_along_one_cycle(self):
        for m in LARGE_MODULI:
            for f in many_maps(m):
                for x in (0, m - 1):
                    n = period(m, f, x)
                    for count in COUNTS + [n - 1, n, n // 2]:
                        y = iterate(m, f, x, count)
                        self.assert_exactly(self.call(distance, m, f, x, y), count % n)
                        self.assertEqual(distance(m, f, y, x), -count % n)
                        self.assertEqual(distance(m, inverse(m, f), y, x), count % n)
                    self.assertEqual(distance(m, f, x, iterate(m, f, x, -1)), n - 1)
                    self.assertEqual(distance(m, f, x, x), 0)

    def test_numbers_of_different_cycles(self):
        for m in LARGE_MODULI:
            for b in (1, 2, 13, m // 2, m // primes_of(m)[-1], m // primes_of(m)[0]):
                cycles = gcd(b, m)
                for y in (0, 1, cycles - 1, cycles, m - cycles, m - 1):
                    found = self.call(distance, m, (1, b), 5, (5 + y) % m)
                    self.assertEqual(found is None, y % cycles != 0)
                    if found is not None:
                        self.assertEqual(found * b % m, y % m)
            for x in (1, m - 1, m // 2 + 1):
                self.assertIsNone(distance(m, (1, 0), x, 0))
                self.assertIsNone(distance(m, (m - 1, 0), x, 0))
                self.assertEqual(distance(m, (m - 1, 0), x, m - x), 0 if 2 * x == m else 1)
            for f in many_maps(m):
                for x, y in ((0, 1), (1, 0), (m - 1, m // 2)):
                    there, back = distance(m, f, x, y), distance(m, f, y, x)
                    self.assertEqual(there is None, back is None)
                    if there is None:
                        self.assertTrue(approach(m, f, x, y)[0] < m)
                    else:
                        self.assertEqual(iterate(m, f, x, there), y)
                        self.assertEqual(there + back, period(m, f, x))

    def test_joint_distances(self):
        for m in LARGE_MODULI:
            maps = many_maps(m)
            for f, g in zip(maps, maps[7:] + maps[:7]):
                n, k = period(m, f, 1), period(m, g, m - 1)
                for count in COUNTS + [lcm(n, k) - 1, lcm(n, k), n - 1, k - 1]:
                    y, v = iterate(m, f, 1, count), iterate(m, g, m - 1, count)
                    found = self.call(joint_distance, m, (f, 1, y), (g, m - 1, v))
                    self.assert_exactly(found, count % lcm(n, k))

    def test_joint_distances_that_do_not_exist(self):
        clashes = 0
        for m in LARGE_MODULI:
            maps = many_maps(m)
            for f, g in zip(maps, maps[7:] + maps[:7]):
                common = gcd(period(m, f, 1), period(m, g, m - 1))
                for one, other in ((5, 6), (0, 1), (10 ** 9, 10 ** 9 + 2), (7, 7)):
                    y, v = iterate(m, f, 1, one), iterate(m, g, m - 1, other)
                    found = joint_distance(m, (f, 1, y), (g, m - 1, v))
                    self.assertEqual(found is None, (one - other) % common != 0)
                    clashes += found is None
                    if found is not None:
                        self.assertEqual((iterate(m, f, 1, found), iterate(m, g, m - 1, found)), (y, v))
            nowhere = ((1, 0), 0, 1)
            for f in maps:
                self.assertIsNone(joint_distance(m, nowhere, (f, 1, 1)))
                self.assertIsNone(joint_distance(m, (f, 1, f[0]), nowhere))
            self.assertIsNone(joint_distance(m, nowhere, nowhere))
        self.assertGreater(clashes, 200)

    def test_distances_among_maps(self):
        for m in LARGE_MODULI:
            for f in many_maps(m):
                n = order(m, f)
                for count in COUNTS + [n - 1, n, -1]:
                    found = self.call(map_distance, m, f, power(m, f, count))
                    self.assert_exactly(found, count % n)
                for g in ((1, 1), (m - 1, 0), (f[0], (f[1] + 1) % m), compose(m, f, (1, m // 2))):
                    found = map_distance(m, f, g)
                    joint = joint_distance(m, (f, 0, apply_map(m, g, 0)), (f, 1, apply_map(m, g, 1)))
                    self.assertEqual(found, joint)
                    if found is not None:
                        self.assertEqual(power(m, f, found), g)
                    if compose(m, f, g) != compose(m, g, f):
                        self.assertIsNone(found)

    def test_translations_and_the_identity(self):
        for m in LARGE_MODULI:
            for b in (0, 1, 2, 6, m - 1, m // 2):
                n = m // gcd(b, m)
                self.assertEqual([period(m, (1, b), 0), period(m, (1, b), m - 1), order(m, (1, b))], [n, n, n])
            self.assertEqual(distance(m, (1, 1), 0, m - 1), m - 1)
            self.assertEqual(distance(m, (1, m - 1), 0, m - 1), 1)
            self.assertEqual(map_distance(m, (1, 1), (1, m - 1)), m - 1)
            self.assertIsNone(map_distance(m, (1, 0), (1, 1)))
            self.assertIsNone(map_distance(m, (1, 1), (m - 1, 0)))

    def test_orders_of_multiplications(self):
        self.assertEqual(order(2 ** 29, (3, 0)), 2 ** 27)
        self.assertEqual(order(2 ** 29, (5, 0)), 2 ** 27)
        self.assertEqual(order(3 ** 18, (2, 0)), 2 * 3 ** 17)
        self.assertEqual(order(13 ** 8, (2, 0)), 12 * 13 ** 7)
        self.assertEqual(period(13 ** 8, (2, 0), 13 ** 7), 12)
        self.assertEqual(order(10 ** 9, (3, 0)), 5 * 10 ** 7)
        self.assertEqual(period(2 ** 29, (5, 1), 0), 2 ** 29)

    def test_equal_calls_return_equal_results(self):
        for m in (12, 10 ** 9):
            for f in many_maps(m):
                self.assertEqual(distance(m, f, 1, 0), distance(m, f, 1, 0))
                self.assertEqual(approach(m, f, 1, 0), approach(m, f, 1, 0))
