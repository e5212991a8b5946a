import unittest

from affinewalk.arithmetic import chain
from affinewalk.maps import apply_map, compose, inverse, is_map, iterate, power, reduce_map
from tests.support import (LARGE_MODULI, SIXTY_DIGITS, SMALL_MODULI, KeepsArguments, Number, Row, all_maps, any_values,
                           large_maps, table)


def power_by_formula(m, f, exponent):
    """The power with an exponent of at least 0, by the sum of a geometric series."""
    a, b = f
    if a == 1:
        return (1, exponent * b % m)
    total = (pow(a, exponent, m * (a - 1)) - 1) // (a - 1)
    return (pow(a, exponent, m), total * b % m)


class IsMapTest(KeepsArguments, unittest.TestCase):
    def test_small_moduli_by_counting(self):
        for m in SMALL_MODULI:
            for a in range(-2, m + 3):
                for b in range(-2, m + 3):
                    inside = 0 <= a < m and 0 <= b < m
                    permutes = len(set(table(m, (a, b)))) == m
                    self.assertIs(is_map(m, (a, b)), inside and permutes, (m, a, b))

    def test_large_moduli(self):
        for m in LARGE_MODULI:
            for f in large_maps(m):
                self.assertIs(self.call(is_map, m, f), True)
            for prime in (2, 3, 5, 7, 11, 13):
                if m % prime == 0:
                    self.assert_false_for(is_map, m, (prime, 0))
                    self.assert_false_for(is_map, m, (m - prime, 1))
            for value in ((0, 0), (1, m), (m, 1), (m + 1, 0), (1, -1), (-1, 0), (1 - m, 0)):
                self.assert_false_for(is_map, m, value)

    def test_edges(self):
        self.assertIs(is_map(2, (1, 0)), True)
        self.assertIs(is_map(2, (1, 1)), True)
        self.assert_false_for(is_map, 2, (0, 1))
        self.assert_false_for(is_map, 2, (1, 2))
        self.assertIs(is_map(10 ** 9, (10 ** 9 - 1, 10 ** 9 - 1)), True)

    def test_any_other_value(self):
        values = any_values() + [(1, 0, 0), (5,), [5, 1], {5: 1}, {0: 5, 1: 1}, ((5, 1),), ([5], [1]), "51", (5, 1.0)]
        for m in (2, 12, 10 ** 9):
            for value in values:
                self.assert_false_for(is_map, m, value)

    def test_by_name(self):
        self.assertIs(is_map(value=(5, 1), m=12), True)


class OperationsTest(KeepsArguments, unittest.TestCase):
    def test_examples(self):
        self.assert_exactly(compose(12, (5, 1), (7, 2)), (11, 9))
        self.assert_exactly(inverse(12, (5, 1)), (5, 7))
        self.assert_exactly([power(12, (5, 1), 2), power(12, (5, 1), -1), power(12, (5, 1), 0)], [(1, 6), (5, 7), (1, 0)])

    def test_by_name(self):
        self.assertEqual(apply_map(x=3, f=(5, 1), m=12), 4)
        self.assertEqual(compose(second=(7, 2), first=(5, 1), m=12), (11, 9))
        self.assertEqual(inverse(f=(5, 1), m=12), (5, 7))
        self.assertEqual(power(exponent=-1, f=(5, 1), m=12), (5, 7))
        self.assertEqual(iterate(count=-1, x=4, f=(5, 1), m=12), 3)

    def test_apply_by_counting(self):
        for m in SMALL_MODULI:
            for f in all_maps(m):
                found = [self.call(apply_map, m, f, x) for x in range(m)]
                self.assert_exactly(found, list(table(m, f)))

    def test_compose_by_counting(self):
        for m in SMALL_MODULI:
            maps = all_maps(m)
            tables = {f: table(m, f) for f in maps}
            for f in maps:
                for g in maps:
                    h = compose(m, f, g)
                    self.assertEqual(tables[h], tuple([tables[g][x] for x in tables[f]]))

    def test_inverse_by_counting(self):
        for m in SMALL_MODULI:
            for f in all_maps(m):
                back = table(m, self.call(inverse, m, f))
                self.assertEqual([back[x] for x in table(m, f)], list(range(m)))

    def test_power_and_iterate_by_counting(self):
        for m in SMALL_MODULI:
            for f in all_maps(m):
                images = table(m, f)
                places = list(range(m))
                for exponent in range(0, 20):
                    forward = self.call(power, m, f, exponent)
                    self.assertEqual(list(table(m, forward)), places)
                    self.assertEqual([iterate(m, f, x, exponent) for x in range(m)], places)
                    self.assertEqual([iterate(m, f, y, -exponent) for y in places], list(range(m)))
                    self.assertEqual(power(m, f, -exponent), inverse(m, forward))
                    places = [images[x] for x in places]

    def test_results_are_plain_and_reduced(self):
        for m in SMALL_MODULI + LARGE_MODULI:
            for f in large_maps(m) if m > 20 else all_maps(m):
                exponents = [0, 1, -1, 2, -2, 7] + SIXTY_DIGITS
                found = [compose(m, f, f), inverse(m, f)] + [power(m, f, exponent) for exponent in exponents]
                for g in found:
                    self.assertIs(type(g), tuple)
                    self.assertEqual([type(n) for n in g], [int, int])
                    self.assertTrue(is_map(m, g))
                self.assertEqual(power(m, f, 0), (1, 0))
                self.assertEqual(power(m, f, 1), f)
                self.assertEqual(power(m, f, -1), inverse(m, f))
                self.assertIs(type(iterate(m, f, m - 1, -5)), int)

    def test_derived_kinds_give_plain_results(self):
        m, f = Number(12), Row((Number(5), Number(1)))
        found = [compose(m, f, f), inverse(m, f), power(m, f, Number(1)), power(m, f, Number(0)), power(m, f, Number(-1))]
        self.assert_exactly(found, [(1, 6), (5, 7), (5, 1), (1, 0), (5, 7)])
        self.assert_exactly([apply_map(m, f, Number(3)), iterate(m, f, Number(3), Number(0))], [4, 3])

    def test_large_moduli_by_definition(self):
        for m in LARGE_MODULI:
            maps = large_maps(m)
            for f, g in zip(maps, maps[5:] + maps[:5]):
                both = self.call(compose, m, f, g)
                self.assertEqual(compose(m, f, self.call(inverse, m, f)), (1, 0))
                self.assertEqual(compose(m, inverse(m, f), f), (1, 0))
                for x in (0, 1, m // 2, m - 1):
                    y = self.call(apply_map, m, f, x)
                    self.assertEqual(y, (f[0] * x + f[1]) % m)
                    self.assertEqual(apply_map(m, both, x), apply_map(m, g, y))
                    self.assertEqual(apply_map(m, inverse(m, f), y), x)

    def test_large_powers_by_formula(self):
        for m in LARGE_MODULI + SMALL_MODULI:
            for f in large_maps(m):
                for exponent in [2, 3, m, m + 1, 10 ** 18] + [abs(e) for e in SIXTY_DIGITS]:
                    wanted = power_by_formula(m, f, exponent)
                    self.assertEqual(self.call(power, m, f, exponent), wanted)
                    self.assertEqual(compose(m, self.call(power, m, f, -exponent), wanted), (1, 0))
                    self.assertEqual(self.call(iterate, m, f, m - 1, exponent), (wanted[0] * (m - 1) + wanted[1]) % m)
                    self.assertEqual(iterate(m, f, iterate(m, f, 1, exponent), -exponent), 1)

    def test_sums_and_products_of_exponents(self):
        halves = [10 ** 59 * 4 + 7, -10 ** 59 * 5 + 1, 3, -1, 0, 123456789 ** 7]
        roots = [10 ** 29 + 3, -10 ** 29 - 9, 123456789012345678901234567890 // 7, -1, 0, 1]
        for m in (2, 12, 10 ** 9, 999814816):
            for f in large_maps(m):
                for s in halves:
                    for t in halves:
                        self.assertEqual(power(m, f, s + t), compose(m, power(m, f, s), power(m, f, t)))
                for s in roots:
                    for t in roots:
                        self.assertEqual(power(m, f, s * t), power(m, power(m, f, s), t))

    def test_powers_of_a_translation(self):
        m = 10 ** 9
        self.assertEqual(power(m, (1, 1), 10 ** 60 - 1), (1, m - 1))
        self.assertEqual(power(m, (m - 1, 5), 10 ** 60 - 1), (m - 1, 5))
        self.assertEqual(power(m, (m - 1, 5), 10 ** 59), (1, 0))
        self.assertEqual(iterate(m, (1, 3), 4, 1 - 10 ** 60), 7)


class ReduceTest(unittest.TestCase):
    def test_reduced_maps_act_on_the_residues(self):
        for m in SMALL_MODULI:
            for f in all_maps(m):
                for divisor in chain(m):
                    a, b = reduce_map(divisor, f)
                    self.assertTrue(0 <= a < divisor and 0 <= b < divisor)
                    for x in range(m):
                        self.assertEqual((a * (x % divisor) + b) % divisor, apply_map(m, f, x) % divisor)
