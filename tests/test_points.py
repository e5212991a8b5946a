import random
import unittest
from math import gcd, lcm

from affinewalk.errors import OutOfRange
from affinewalk.maps import apply_map, is_map, iterate, power
from affinewalk.orbits import order
from affinewalk.paths import path_map
from affinewalk.points import accepts_misfit, index_through, map_through, maps_through, misfit_certificate
from tests.support import (CERTIFICATE_WORDS, LARGE_MODULI, SMALL_MODULI, KeepsArguments, Number, Row, all_maps, any_values,
                           first_network, kinds_of, large_maps, primes_of, structured_maps, variations)


def goes_through(m, f, points):
    return all((f[0] * x + f[1]) % m == y for x, y in points)


def step_of(m, points):
    """The step as point 16 defines it."""
    return lcm(*[m // (gcd(m, x - points[0][0]) if x != points[0][0] else m) for x, _ in points])


def is_index(points, value):
    return type(value) is int and 0 <= value < len(points)


def forced(m, points, i, d):
    """The value that the point forces modulo d, or None if point 17 does not define it."""
    if not is_index(points, i) or type(d) is not int or d < 1:
        return None
    (x, y), (first_x, first_y) = points[i], points[0]
    g = m if x == first_x else gcd(m, x - first_x)
    if (y - first_y) % g != 0 or (m // g) % d != 0:
        return None
    return (y - first_y) // g * pow((x - first_x) // g, -1, d) % d


def holds_misfit(m, points, certificate):
    """What point 17 says, word by word."""
    if type(certificate) is not tuple or certificate == () or type(certificate[0]) is not str:
        return False
    if certificate[0] == "point" and len(certificate) == 2:
        return is_index(points, certificate[1]) and forced(m, points, certificate[1], 1) is None
    if certificate[0] == "clash" and len(certificate) == 4:
        _, i, j, d = certificate
        values = [forced(m, points, i, d), forced(m, points, j, d)]
        return None not in values and values[0] != values[1]
    if certificate[0] == "unit" and len(certificate) == 3:
        _, i, p = certificate
        return forced(m, points, i, p) == 0 and p > 1 and primes_of(p) == [p]
    return False


def random_points(m, chosen):
    """Points of a map, sometimes with one of them moved or with points given twice."""
    f = chosen.choice(all_maps(m)) if m < 100 else chosen.choice(structured_maps(m) + large_maps(m))
    spread = chosen.choice([1, 1] + primes_of(m) + [m // primes_of(m)[0]])
    xs = [(chosen.randrange(m) * spread + 1) % m for _ in range(chosen.choice([1, 2, 2, 3, 4, 6]))]
    points = [(x, (f[0] * x + f[1]) % m) for x in xs]
    if chosen.random() < 0.2:
        points.append(points[0])
    if chosen.random() < 0.4:
        k = chosen.randrange(len(points))
        points[k] = (points[k][0], (points[k][1] + chosen.choice([1, spread, spread * 2, m // 2])) % m)
    return points


class ThroughTest(KeepsArguments, unittest.TestCase):
    def assert_out_of_range(self, m, points, value):
        with self.assertRaises(OutOfRange, msg=value) as caught:
            self.call(map_through, m, points, value)
        self.assertIs(caught.exception.value, value)

    def test_examples(self):
        self.assert_exactly(maps_through(12, [(0, 1), (4, 9)]), (5, 3, 2))
        self.assert_exactly(map_through(12, [(0, 1), (4, 9)], 1), (11, 1))
        self.assert_out_of_range(12, [(0, 1), (4, 9)], 2)

    def test_by_name(self):
        points = ((0, 1), (4, 9))
        self.assertEqual(maps_through(points=points, m=12), (5, 3, 2))
        self.assertEqual(map_through(index=1, points=points, m=12), (11, 1))
        self.assertEqual(index_through(f=(11, 1), points=points, m=12), 1)
        self.assertIsNone(misfit_certificate(points=points, m=12))
        self.assertIs(accepts_misfit(certificate=("point", 1), points=points, m=12), False)

    def assert_by_counting(self, m, points):
        wanted = [f for f in all_maps(m) if goes_through(m, f, points)]
        found = self.call(maps_through, m, points)
        self.assert_exactly(self.call(maps_through, m, tuple(points)), found)
        if not wanted:
            self.assertIsNone(found)
        else:
            step = step_of(m, points)
            self.assert_exactly(found, (wanted[0][0], step, len(wanted)))
            self.assertEqual([a for a, _ in wanted],
                             [a for a in range(m) if gcd(a, m) == 1 and (a - wanted[0][0]) % step == 0])
        self.assert_exactly([map_through(m, points, k) for k in range(len(wanted))], wanted)
        self.assert_out_of_range(m, points, len(wanted))
        self.assert_out_of_range(m, points, -1)
        self.assertEqual([index_through(m, points, f) for f in wanted], list(range(len(wanted))))
        self.assertEqual(misfit_certificate(m, points) is None, wanted != [])
        return len(wanted)

    def test_two_points_map_by_map(self):
        for m in (2, 3, 4, 6, 8, 9):
            for x in range(m):
                for y in range(m):
                    for first in ((0, 0), (1, m - 1)):
                        self.assert_by_counting(m, [first, (x, y)])

    def test_several_points_map_by_map(self):
        counts = []
        for m in SMALL_MODULI + [18, 24, 30, 36]:
            chosen = random.Random(m)
            counts += [self.assert_by_counting(m, random_points(m, chosen)) for _ in range(40)]
        self.assertGreater(counts.count(0), 50)
        self.assertGreater(counts.count(1), 50)
        self.assertGreater(len(set(counts)), 6)

    def test_maps_that_do_not_go_through(self):
        for m in (8, 9, 12):
            chosen = random.Random(m)
            for points in [random_points(m, chosen) for _ in range(15)]:
                for f in all_maps(m):
                    self.assertEqual(index_through(m, points, f) is None, not goes_through(m, f, points))

    def test_one_point(self):
        for m in SMALL_MODULI + LARGE_MODULI:
            units = m
            for prime in primes_of(m):
                units = units // prime * (prime - 1)
            self.assert_exactly(maps_through(m, [(1, m - 1)]), (1, 1, units))
            self.assert_exactly(maps_through(m, ((0, 0), (0, 0), (0, 0))), (1, 1, units))
            self.assert_exactly(map_through(m, [(1, m - 1)], units - 1), (m - 1, 0))
            self.assert_exactly(map_through(m, [(1, m - 1)], 0), (1, m - 2))
            self.assert_out_of_range(m, [(1, m - 1)], units)
            self.assert_exactly(index_through(m, [(1, m - 1)], (m - 1, 0)), units - 1)

    def test_same_x_and_another_y(self):
        for m in SMALL_MODULI + LARGE_MODULI:
            points = [(1, 0), (1, 0), (1, 1)]
            self.assertIsNone(maps_through(m, points))
            self.assert_exactly(misfit_certificate(m, points), ("point", 2))
            self.assert_out_of_range(m, points, 0)
            self.assertIsNone(index_through(m, points, (1, 0)))

    def test_start_may_be_greater_than_step(self):
        self.assert_exactly(maps_through(12, [(0, 0), (6, 6)]), (1, 2, 4))
        self.assert_exactly(maps_through(30, [(0, 0), (10, 20)]), (11, 3, 4))
        self.assert_exactly(maps_through(30030, [(0, 0), (2310, 2310 * 2)]), (41, 13, 480))

    def test_large_moduli(self):
        counts = []
        for m in LARGE_MODULI:
            chosen = random.Random(m)
            for f in structured_maps(m)[::2] + large_maps(m)[::3]:
                for spread in {1, primes_of(m)[0], primes_of(m)[-1], m // primes_of(m)[-1], m // primes_of(m)[0], 60}:
                    xs = [(chosen.randrange(m) * spread + 7) % m for _ in range(chosen.choice([1, 2, 3, 7]))]
                    points = [(x, apply_map(m, f, x)) for x in xs]
                    counts.append(self.assert_large(m, points, f))
        self.assertGreater(counts.count(1), 20)
        self.assertGreater(len(set(counts)), 30)

    def assert_large(self, m, points, f):
        found = self.call(maps_through, m, points)
        start, step, count = found
        self.assertEqual(kinds_of(found), kinds_of((1, 1, 1)))
        self.assertEqual(step, step_of(m, points))
        self.assertEqual((f[0] - start) % step, 0)
        units = m // step
        for prime in primes_of(m):
            units = units // prime * (prime - 1) if step % prime != 0 else units
        self.assertEqual(count, units)
        self.assertEqual([a for a in range(start % step, start, step) if gcd(a, m) == 1], [])
        maps = [self.call(map_through, m, points, k) for k in sorted({0, count // 2, count - 1})]
        self.assertEqual(maps, sorted(set(maps)))
        for k, g in zip(sorted({0, count // 2, count - 1}), maps):
            self.assertEqual(kinds_of(g), kinds_of((1, 1)))
            self.assertTrue(is_map(m, g) and goes_through(m, g, points))
            self.assert_exactly(self.call(index_through, m, points, g), k)
        self.assertEqual(maps[0][0], start)
        self.assertEqual(map_through(m, points, index_through(m, points, f)), f)
        for value in (-1, count, count + 1, 10 ** 99):
            self.assert_out_of_range(m, points, value)
        self.assertIsNone(misfit_certificate(m, points))
        return count

    def test_fifty_points(self):
        for m in LARGE_MODULI:
            chosen = random.Random(m)
            for f in structured_maps(m)[:6]:
                points = [(x, apply_map(m, f, x)) for x in [chosen.randrange(m) for _ in range(50)]]
                self.assertEqual(map_through(m, points, index_through(m, points, f)), f)
                points[49] = (points[49][0], (points[49][1] + 1) % m)
                self.assertIsNone(maps_through(m, points))
                self.assertTrue(holds_misfit(m, points, misfit_certificate(m, points)))

    def test_any_value_as_index(self):
        for m, points in ((12, [(0, 1), (4, 9)]), (10 ** 9, [(0, 1)]), (9, [(0, 0), (3, 0)]), (2, ((0, 0), (0, 1)))):
            found = maps_through(m, points)
            count = 0 if found is None else found[2]
            for value in any_values() + ["0", (0,), [0], {0: 0}, 0.0]:
                if type(value) is int and 0 <= value < count:
                    self.assertTrue(goes_through(m, map_through(m, points, value), points))
                else:
                    self.assert_out_of_range(m, points, value)

    def test_any_value_as_map(self):
        others = [(11, 1, 0), (11,), [11, 1], ("11", 1), (11, 13), (23, 1), (11, -11), (-1, 1), (2, 1), (11.0, 1)]
        for value in any_values() + others:
            self.assertIsNone(self.call(index_through, 12, [(0, 1), (4, 9)], value), value)
            self.assertIsNone(self.call(index_through, 12, [(0, 0)], value), value)
        for value in ((True, 0), (1, False)):
            self.assertIsNone(index_through(12, [(0, 0)], value))
        self.assert_exactly(index_through(12, [(0, 0)], (1, 0)), 0)

    def test_maps_of_paths_go_through_their_ends(self):
        network = first_network()
        path = [("g", "forward"), ("e", "forward"), ("f", "forward")]
        f = path_map(network, ("a", 0), path)
        points = [(x, iterate(12, f, x, 1)) for x in (0, 3, 6, 9)]
        self.assertEqual(map_through(12, points, index_through(12, points, f)), f)
        self.assertEqual(power(12, f, order(12, f)), (1, 0))

    def test_derived_kinds_give_plain_results(self):
        m, points = Number(12), [Row((Number(0), Number(1))), Row((Number(4), Number(9)))]
        self.assert_exactly(maps_through(m, points), (5, 3, 2))
        self.assert_exactly(map_through(m, points, Number(1)), (11, 1))
        self.assert_exactly(index_through(m, points, Row((Number(11), Number(1)))), 1)


class MisfitTest(KeepsArguments, unittest.TestCase):
    def assert_as_held(self, m, points, certificate):
        found = accepts_misfit(m, points, certificate)
        self.assertIs(found, holds_misfit(m, points, certificate), (m, points, certificate))
        return found

    def assert_certificate(self, m, points):
        certificate = self.call(misfit_certificate, m, points)
        self.assert_exactly(misfit_certificate(m, tuple(points)), certificate)
        self.assertEqual(certificate is None, maps_through(m, points) is not None)
        if certificate is not None:
            self.assertTrue(self.assert_as_held(m, points, certificate))
            self.assertEqual(kinds_of(certificate), kinds_of(("", *[1 for _ in certificate[1:]])))
        return certificate

    def test_examples(self):
        certificate = misfit_certificate(9, [(0, 0), (3, 0)])
        self.assertIs(accepts_misfit(9, [(0, 0), (3, 0)], certificate), True)
        self.assertIs(accepts_misfit(12, [(0, 0), (4, 2)], ("point", 1)), True)

    def test_all_candidates_for_small_moduli(self):
        valid_forms = []
        for m in (2, 4, 6, 8, 9, 12, 18):
            chosen = random.Random(m)
            for points in [random_points(m, chosen) for _ in range(40)]:
                size = len(points) + 1
                candidates = [("point", i) for i in range(-1, size)]
                candidates += [("unit", i, p) for i in range(-1, size) for p in range(-1, 8)]
                candidates += [("clash", i, j, d) for i in range(-1, size) for j in range(-1, size) for d in range(-1, m + 2)]
                valid = [certificate for certificate in candidates if self.assert_as_held(m, points, certificate)]
                self.assertEqual(valid == [], any(goes_through(m, f, points) for f in all_maps(m)))
                certificate = self.assert_certificate(m, points)
                self.assertTrue(certificate is None or certificate in valid)
                valid_forms += sorted({certificate[0] for certificate in valid})
        self.assertEqual(set(valid_forms), {"point", "clash", "unit"})
        self.assertGreater(min(valid_forms.count(form) for form in set(valid_forms)), 10)

    def test_each_form_where_no_other_one_is_valid(self):
        for m, points, form in ((12, [(0, 0), (4, 2)], "point"), (9, [(0, 0), (3, 0)], "unit"), (8, [(0, 0), (1, 2)], "unit"),
                                (15, [(0, 0), (1, 1), (2, 4)], "clash"), (9, [(0, 0), (1, 1), (3, 6)], "clash"),
                                (10 ** 9, [(0, 0), (1, 1), (2 ** 8, 3 * 2 ** 8)], "clash"),
                                (2 ** 29, [(5, 5), (5, 6)], "point"), (3 ** 18, [(1, 1), (2, 4)], "unit"),
                                (13 ** 8, [(13 ** 7, 0), (2 * 13 ** 7, 13 ** 7 * 13 % 13 ** 8)], "unit")):
            self.assertEqual(self.assert_certificate(m, points)[0], form)

    def test_large_moduli(self):
        forms = []
        for m in LARGE_MODULI + [10 ** 6]:
            chosen = random.Random(m)
            for points in [random_points(m, chosen) for _ in range(60)]:
                certificate = self.call(misfit_certificate, m, points)
                self.assertEqual(certificate is None, maps_through(m, points) is not None)
                if certificate is not None:
                    self.assertIs(accepts_misfit(m, points, certificate), True)
                    forms.append(certificate[0])
        self.assertEqual(set(forms), {"point", "clash", "unit"})

    def test_changed_certificates(self):
        accepted = 0
        for m in (2, 4, 12, 36, 900, 8190):
            chosen = random.Random(m)
            for points in [random_points(m, chosen) for _ in range(25)]:
                certificate = misfit_certificate(m, points)
                if certificate is not None:
                    for other in variations(certificate):
                        accepted += self.assert_as_held(m, points, other)
        self.assertGreater(accepted, 10)

    def test_prime_that_is_no_prime_or_too_large(self):
        points = [(0, 0), (1, 0)]
        for p in (-3, -1, 0, 1, 4, 6, 9, 12, 17, 10 ** 9 + 7, True, None, "2", (2,), [2]):
            self.assert_false_for(accepts_misfit, 12, points, ("unit", 1, p))
        self.assertIs(accepts_misfit(12, points, ("unit", 1, 2)), True)
        self.assertIs(accepts_misfit(12, points, ("unit", 1, 3)), True)
        self.assert_false_for(accepts_misfit, 12, points, ("unit", 1, 5))
        self.assert_false_for(accepts_misfit, 12, points, ("unit", 0, 2))

    def test_any_value(self):
        questions = [(12, [(0, 0), (4, 2)]), (9, [(0, 0), (3, 0)]), (15, [(0, 0), (1, 1), (2, 4)]), (2, [(0, 0), (0, 1)])]
        for m, points in questions:
            for value in any_values():
                self.assert_false_for(accepts_misfit, m, points, value)
                for word in CERTIFICATE_WORDS:
                    for size in range(5):
                        self.assert_as_held(m, points, (word, *[value] * size))
                for other in (("clash", value, 1, 3), ("clash", 1, value, 3), ("clash", 1, 2, value), ("unit", value, 3),
                              ("unit", 1, value), (value, 1), ["point", 1], ("point", 1, value), ("clash", 2, 1, value)):
                    self.assert_as_held(m, points, other)
