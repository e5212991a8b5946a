import random
import unittest
from math import gcd

from affinewalk.cycles import cycles
from affinewalk.errors import OutOfRange
from affinewalk.maps import compose, inverse, is_map, power
from affinewalk.symmetries import commuting_at, commuting_count, commuting_index, conjugator
from tests.support import (LARGE_MODULI, SMALL_MODULI, KeepsArguments, Number, Row, all_maps, any_values, large_maps,
                           primes_of, structured_maps)


def many_maps(m):
    return structured_maps(m) + large_maps(m)[::3]


def turned(m, f, u):
    """The map u makes of f."""
    return compose(m, compose(m, inverse(m, u), f), u)


class ConjugatorTest(KeepsArguments, unittest.TestCase):
    def assert_conjugator(self, m, f, g):
        u = self.call(conjugator, m, f, g)
        self.assertTrue(is_map(m, u), (m, f, g))
        self.assertEqual([type(u), type(u[0]), type(u[1])], [tuple, int, int])
        self.assertEqual(turned(m, f, u), g)
        self.assertEqual(conjugator(m, f, g), u)

    def test_example(self):
        u = conjugator(9, (4, 1), (4, 2))
        self.assert_exactly(compose(9, compose(9, inverse(9, u), (4, 1)), u), (4, 2))
        self.assertEqual(conjugator(g=(4, 2), f=(4, 1), m=9), u)

    def test_small_moduli_map_by_map(self):
        for m in SMALL_MODULI:
            maps = all_maps(m)
            for f in maps:
                conjugate = {turned(m, f, u) for u in maps}
                for g in maps:
                    if g in conjugate:
                        self.assert_conjugator(m, f, g)
                    else:
                        self.assertIsNone(self.call(conjugator, m, f, g), (m, f, g))

    def test_larger_moduli_map_by_map(self):
        for m in (24, 30, 36):
            maps = all_maps(m)
            for f in random.Random(m).sample(maps, 12):
                conjugate = {turned(m, f, u) for u in maps}
                for g in [g for g in maps if g[0] == f[0]] + random.Random(m).sample(maps, 20):
                    self.assertEqual(conjugator(m, f, g) is not None, g in conjugate, (m, f, g))

    def test_modulus_two(self):
        self.assert_conjugator(2, (1, 0), (1, 0))
        self.assert_conjugator(2, (1, 1), (1, 1))
        self.assertIsNone(conjugator(2, (1, 0), (1, 1)))
        self.assertIsNone(conjugator(2, (1, 1), (1, 0)))

    def test_maps_made_conjugate(self):
        for m in LARGE_MODULI:
            maps = many_maps(m)
            for f in maps:
                self.assert_conjugator(m, f, f)
                for u in random.Random(f[1]).sample(maps, 6):
                    self.assert_conjugator(m, f, turned(m, f, u))
                    self.assert_conjugator(m, turned(m, f, u), f)

    def test_maps_that_are_not_conjugate(self):
        count = 0
        for m in LARGE_MODULI:
            maps = many_maps(m)
            for f in maps:
                self.assertIsNone(self.call(conjugator, m, f, (1 if f[0] != 1 else m - 1, f[1])))
                for g in [(f[0], b) for b in (0, 1, m - 1, m // 2, primes_of(m)[0])] + random.Random(f[1]).sample(maps, 4):
                    if cycles(m, f) != cycles(m, g):
                        self.assertIsNone(conjugator(m, f, g), (m, f, g))
                        count += 1
                    elif conjugator(m, f, g) is not None:
                        self.assert_conjugator(m, f, g)
                    self.assertEqual(conjugator(m, f, g) is None, conjugator(m, g, f) is None)
        self.assertGreater(count, 500)

    def test_translations_are_conjugate_if_a_unit_leads_from_one_to_the_other(self):
        for m in LARGE_MODULI:
            numbers = [0, 1, m - 1, 2, 6, m // 2, m // primes_of(m)[0], 30, 17]
            for b in numbers:
                for d in numbers:
                    found = conjugator(m, (1, b % m), (1, d % m))
                    self.assertEqual(found is not None, gcd(b, m) == gcd(d, m))

    def test_derived_kinds_give_plain_results(self):
        f, g = Row((Number(4), Number(1))), Row((Number(4), Number(2)))
        u = conjugator(Number(9), f, g)
        self.assert_exactly(u, conjugator(9, (4, 1), (4, 2)))


class CommutingTest(KeepsArguments, unittest.TestCase):
    def assert_out_of_range(self, m, f, value):
        with self.assertRaises(OutOfRange, msg=value) as caught:
            self.call(commuting_at, m, f, value)
        self.assertIs(caught.exception.value, value)

    def test_examples(self):
        self.assert_exactly(commuting_at(9, (4, 1), 3), (4, 1))
        with self.assertRaises(OutOfRange) as caught:
            commuting_at(9, (4, 1), 9)
        self.assert_exactly(caught.exception.value, 9)

    def test_by_name(self):
        self.assertEqual(commuting_count(f=(4, 1), m=9), 9)
        self.assertEqual(commuting_at(index=3, f=(4, 1), m=9), (4, 1))
        self.assertEqual(commuting_index(g=(4, 1), f=(4, 1), m=9), 3)

    def test_small_moduli_map_by_map(self):
        for m in SMALL_MODULI:
            maps = all_maps(m)
            for f in maps:
                wanted = [g for g in maps if compose(m, f, g) == compose(m, g, f)]
                self.assert_exactly(self.call(commuting_count, m, f), len(wanted))
                self.assert_exactly([commuting_at(m, f, k) for k in range(len(wanted))], wanted)
                places = {g: k for k, g in enumerate(wanted)}
                for g in maps:
                    self.assert_exactly(commuting_index(m, f, g), places.get(g))
                for index in (-1, len(wanted), len(wanted) + 1):
                    self.assert_out_of_range(m, f, index)

    def test_larger_moduli_map_by_map(self):
        for m in (24, 30, 36, 60):
            maps = all_maps(m)
            for f in random.Random(m).sample(maps, 8) + [(1, 0), (1, 6), (m - 1, 2)]:
                wanted = [g for g in maps if compose(m, f, g) == compose(m, g, f)]
                self.assertEqual(commuting_count(m, f), len(wanted))
                self.assertEqual([commuting_at(m, f, k) for k in range(0, len(wanted), 7)], wanted[::7])
                self.assertEqual([commuting_index(m, f, g) for g in wanted], list(range(len(wanted))))

    def test_known_counts(self):
        for m in LARGE_MODULI:
            units = m
            for prime in primes_of(m):
                units = units // prime * (prime - 1)
            self.assertEqual(commuting_count(m, (1, 0)), units * m)
            self.assertEqual(commuting_count(m, (1, 1)), m)
            self.assertEqual(commuting_at(m, (1, 0), units * m - 1), (m - 1, m - 1))
            self.assertEqual(commuting_index(m, (1, 0), (m - 1, m - 1)), units * m - 1)
            self.assertEqual(commuting_at(m, (1, 1), m - 1), (1, m - 1))
            self.assertIsNone(commuting_index(m, (1, 1), (m - 1, 0)))

    def test_large_moduli(self):
        for m in LARGE_MODULI:
            chosen = random.Random(m)
            for f in many_maps(m):
                count = self.call(commuting_count, m, f)
                self.assertIs(type(count), int)
                indexes = sorted({0, 1, count // 2, count - 2, count - 1, *[chosen.randrange(count) for _ in range(4)]})
                found = [self.call(commuting_at, m, f, index) for index in indexes if 0 <= index < count]
                self.assertEqual(found, sorted(set(found)))
                for index, g in zip([index for index in indexes if 0 <= index < count], found):
                    self.assertEqual([type(g), type(g[0]), type(g[1])], [tuple, int, int])
                    self.assertTrue(is_map(m, g))
                    self.assertEqual(compose(m, f, g), compose(m, g, f))
                    self.assert_exactly(self.call(commuting_index, m, f, g), index)
                for index in (-1, -count, count, count + 1, 10 ** 99, 1 - 10 ** 100):
                    self.assert_out_of_range(m, f, index)

    def test_powers_and_their_products_commute(self):
        for m in LARGE_MODULI:
            for f in many_maps(m)[::2]:
                count = commuting_count(m, f)
                other = commuting_at(m, f, count // 3)
                for e in (-1, 0, 1, 2, 10 ** 17):
                    g = compose(m, power(m, f, e), other)
                    index = commuting_index(m, f, g)
                    self.assertTrue(0 <= index < count)
                    self.assertEqual(commuting_at(m, f, index), g)

    def test_neighbours_in_the_list(self):
        for m in LARGE_MODULI:
            for f in many_maps(m)[::3]:
                count = commuting_count(m, f)
                index = count // 2
                if index + 1 < count:
                    low, high = commuting_at(m, f, index), commuting_at(m, f, index + 1)
                    between = [(low[0], low[1] + k) for k in range(1, 30)] + [(high[0], high[1] - k) for k in range(1, 30)]
                    for g in between:
                        if low < g < high:
                            self.assertIsNone(commuting_index(m, f, g))

    def test_maps_that_do_not_commute(self):
        for m in LARGE_MODULI:
            maps = many_maps(m)
            for f, g in zip(maps, maps[5:] + maps[:5]):
                commute = compose(m, f, g) == compose(m, g, f)
                self.assertEqual(commuting_index(m, f, g) is not None, commute)

    def test_any_value_as_index(self):
        others = ["0", (0,), [0], {0: 0}, (0, 0), 0.0, 1.0, b"0"]
        for m, f in ((9, (4, 1)), (2, (1, 0)), (10 ** 9, (1, 0)), (10 ** 9, (3, 7))):
            count = commuting_count(m, f)
            for value in any_values() + others:
                if type(value) is int and 0 <= value < count:
                    self.assertEqual(commuting_index(m, f, commuting_at(m, f, value)), value)
                else:
                    self.assert_out_of_range(m, f, value)

    def test_any_value_as_map(self):
        others = [(4, 1, 0), (4,), [4, 1], ("4", 1), (4, 10), (13, 1), (4, -8), (3, 0), ((4, 1),), "4*x + 1", {4: 1}, (4.0, 1)]
        for value in any_values() + others:
            self.assertIsNone(self.call(commuting_index, 9, (4, 1), value), value)
            if value != (1, 0):
                self.assertIsNone(self.call(commuting_index, 9, (1, 0), value), value)
        self.assertIsNone(commuting_index(9, (1, 0), (True, 0)))
        self.assertIsNone(commuting_index(9, (1, 0), (1, False)))
        self.assert_exactly(commuting_index(9, (1, 0), (1, 0)), 0)

    def test_modulus_two(self):
        for f in ((1, 0), (1, 1)):
            self.assertEqual(commuting_count(2, f), 2)
            self.assert_exactly([commuting_at(2, f, 0), commuting_at(2, f, 1)], [(1, 0), (1, 1)])
            self.assert_out_of_range(2, f, 2)

    def test_derived_kinds_give_plain_results(self):
        m, f = Number(9), Row((Number(4), Number(1)))
        self.assert_exactly([commuting_count(m, f), commuting_at(m, f, Number(3)), commuting_index(m, f, f)], [9, (4, 1), 3])
