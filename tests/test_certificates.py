import random
import unittest
from math import gcd, lcm

from affinewalk.certificates import (accepts_distance, accepts_joint, accepts_period, distance_certificate, joint_certificate,
                                     period_certificate)
from affinewalk.maps import iterate
from affinewalk.orbits import distance, joint_distance, period
from tests.support import (CERTIFICATE_WORDS, LARGE_MODULI, SMALL_MODULI, KeepsArguments, Number, Row, all_maps, any_values,
                           kinds_of, large_maps, orbit, primes_of, structured_maps, variations)


def divisors_of(m):
    return [d for d in range(1, m + 1) if m % d == 0]


def many_maps(m):
    return structured_maps(m)[::2] + large_maps(m)[::5]


def is_whole(value):
    return type(value) is int


def is_form(value, word, size):
    return type(value) is tuple and len(value) == size and type(value[0]) is str and value[0] == word


# The following say what the document says, word by word. The one thing added is that no period is above its divisor.

def holds_period(m, f, x, certificate, d):
    if type(certificate) is not tuple or len(certificate) != 2:
        return False
    n, primes = certificate
    if not is_whole(n) or not 1 <= n <= d or type(primes) is not tuple or not all(is_whole(q) for q in primes):
        return False
    return (list(primes) == primes_of(n) and (iterate(m, f, x, n) - x) % d == 0
            and all((iterate(m, f, x, n // q) - x) % d != 0 for q in primes))


def holds_reached(m, question, certificate):
    if not is_form(certificate, "reached", 3):
        return False
    f, x, y = question
    _, n, found = certificate
    return holds_period(m, f, x, found, m) and is_whole(n) and 0 <= n < found[0] and iterate(m, f, x, n) == y


def holds_apart(m, question, certificate):
    if not is_form(certificate, "apart", 5):
        return False
    f, x, y = question
    _, d, p, found, k = certificate
    if not is_whole(p) or p < 2 or not is_whole(d) or d < 1 or m % (d * p) != 0 or primes_of(p) != [p]:
        return False
    if not holds_period(m, f, x, found, d) or not is_whole(k) or not 0 <= k < found[0]:
        return False
    return ((iterate(m, f, x, k) - y) % d == 0
            and all((iterate(m, f, x, k + t * found[0]) - y) % (d * p) != 0 for t in range(p)))


def holds_joint(m, first, second, certificate):
    if is_form(certificate, "reached", 4):
        _, n, one, other = certificate
        return (holds_period(m, *first[:2], one, m) and holds_period(m, *second[:2], other, m) and is_whole(n)
                and 0 <= n < lcm(one[0], other[0]) and iterate(m, *first[:2], n) == first[2]
                and iterate(m, *second[:2], n) == second[2])
    if is_form(certificate, "first", 2):
        return holds_apart(m, first, certificate[1])
    if is_form(certificate, "second", 2):
        return holds_apart(m, second, certificate[1])
    if not is_form(certificate, "clash", 3):
        return False
    _, one, other = certificate
    return (holds_reached(m, first, one) and holds_reached(m, second, other)
            and (one[1] - other[1]) % gcd(one[2][0], other[2][0]) != 0)


def hostile_values():
    """Values with the words and sizes of certificates, and any values in them."""
    values = any_values()
    for value in any_values() + [(1, ()), (2, (2,)), (True, ()), (1, []), [1, ()]]:
        for word in CERTIFICATE_WORDS:
            values.extend([(word, *[value] * size) for size in range(6)])
        values.extend([(value, ()), (1, value), (2, (value,)), (value, value), (6, (2, value)), value])
        values.extend([("apart", 1, 2, value, 0), ("apart", value, 2, (1, ()), 0), ("apart", 1, value, (1, ()), 0),
                       ("apart", 1, 2, (1, ()), value), ("reached", 0, value), ("reached", value, (1, ())),
                       ("reached", 0, value, (1, ())), ("reached", 0, (1, ()), value), ("reached", value, (1, ()), (1, ())),
                       ("clash", value, ("reached", 0, (1, ()))), ("first", ("apart", value, 2, (1, ()), 0))])
    return values


class PeriodTest(KeepsArguments, unittest.TestCase):
    def assert_as_held(self, m, f, x, certificate, d):
        found = accepts_period(m, f, x, certificate, divisor=d)
        self.assertIs(found, holds_period(m, f, x, certificate, d), (m, f, x, certificate, d))
        if d == m:
            self.assertIs(accepts_period(m, f, x, certificate), found)
        return found

    def test_examples(self):
        self.assert_exactly(period_certificate(8, (3, 1), 0), (4, (2,)))
        self.assertIs(accepts_period(8, (3, 1), 0, (8, (2,))), False)
        self.assertIs(accepts_period(8, (3, 1), 0, (4, (2,))), True)

    def test_by_name(self):
        self.assertEqual(period_certificate(divisor=4, x=0, f=(3, 1), m=8), (2, (2,)))
        self.assertEqual(period_certificate(x=0, f=(3, 1), m=8, divisor=None), (4, (2,)))
        self.assertIs(accepts_period(certificate=(2, (2,)), x=0, f=(3, 1), m=8, divisor=4), True)
        self.assertRaises(TypeError, period_certificate, 8, (3, 1), 0, 4)
        self.assertRaises(TypeError, accepts_period, 8, (3, 1), 0, (2, (2,)), 4)

    def test_small_moduli_by_counting(self):
        for m in SMALL_MODULI:
            for f in all_maps(m):
                for x in range(m):
                    self.assertEqual(period_certificate(m, f, x), period_certificate(m, f, x, divisor=m))
                    for d in divisors_of(m):
                        n = len({y % d for y in orbit(m, f, x)})
                        self.assert_exactly(period_certificate(m, f, x, divisor=d), (n, tuple(primes_of(n))))

    def test_each_number_with_each_set_of_primes(self):
        for m in (2, 3, 4, 6, 8, 9, 12):
            for f in random.Random(m).sample(all_maps(m), min(len(all_maps(m)), 12)):
                for x in {0, 1, m // 2, m - 1}:
                    for d in divisors_of(m):
                        accepted = [n for n in range(-2, 3 * m + 60) if self.assert_as_held(
                            m, f, x, (n, tuple(primes_of(max(n, 1)))), d)]
                        self.assertEqual(accepted, [len({y % d for y in orbit(m, f, x)})])
                        for n in accepted:
                            for primes in ((), (2,), (3,), (2, 3), (3, 2), (2, 2), (2, 2, 3), (1,), (4,), (n,), (2, 5)):
                                self.assert_as_held(m, f, x, (n, primes), d)

    def test_changed_certificates(self):
        for m in (2, 4, 12, 9, 10 ** 6, 10 ** 9, 2 ** 29, 13 ** 8):
            for f in many_maps(m)[:12]:
                for d in {1, primes_of(m)[0], m // primes_of(m)[0], m}:
                    certificate = self.call(period_certificate, m, f, 1) if d == m else period_certificate(m, f, 1, divisor=d)
                    self.assertTrue(self.assert_as_held(m, f, 1, certificate, d))
                    for other in variations(certificate):
                        self.assertFalse(self.assert_as_held(m, f, 1, other, d))

    def test_multiples_and_divisors_of_the_period(self):
        for m in LARGE_MODULI:
            for f in many_maps(m):
                n, primes = period_certificate(m, f, 5)
                self.assert_exactly((n, primes), (period(m, f, 5), tuple(primes_of(period(m, f, 5)))))
                for factor in (2, 3, 13, 17, 101, 2 * n, 10 ** 90 + 1):
                    self.assert_false_for(accepts_period, m, f, 5, (n * factor, primes))
                    if factor < 200:
                        self.assertFalse(self.assert_as_held(m, f, 5, (n * factor, tuple(primes_of(n * factor))), m))
                for prime in primes:
                    self.assertFalse(self.assert_as_held(m, f, 5, (n // prime, tuple(primes_of(n // prime))), m))
                    self.assert_false_for(accepts_period, m, f, 5, (n, tuple(q for q in primes if q != prime)))
                    self.assert_false_for(accepts_period, m, f, 5, (n, primes[::-1] + (prime,)))
                    self.assert_false_for(accepts_period, m, f, 5, (n, list(primes)))

    def test_edges(self):
        for m in SMALL_MODULI + LARGE_MODULI:
            for f in ((1, 0), (1, 1), (m - 1, 0), (m - 1, 1)):
                self.assert_exactly(period_certificate(m, f, m - 1, divisor=1), (1, ()))
                self.assertIs(accepts_period(m, f, m - 1, (1, ()), divisor=1), True)
                self.assertIs(accepts_period(m, f, m - 1, (2, (2,)), divisor=1), False)
            self.assert_exactly(period_certificate(m, (1, 1), 0), (m, tuple(primes_of(m))))
            self.assert_exactly(period_certificate(m, (1, 0), 0), (1, ()))

    def test_any_value(self):
        for value in hostile_values():
            for m, f, x in ((2, (1, 0), 1), (2, (1, 1), 0), (12, (7, 2), 3), (10 ** 9, (3, 7), 5)):
                for d in (1, 2, m):
                    found = accepts_period(m, f, x, value, divisor=d)
                    self.assertIs(found, holds_period(m, f, x, value, d), value)
        for value in any_values():
            self.assert_false_for(accepts_period, 12, (7, 2), 3, value)

    def test_derived_kinds_give_plain_results(self):
        found = period_certificate(Number(8), Row((Number(3), Number(1))), Number(0), divisor=Number(4))
        self.assert_exactly(found, (2, (2,)))


class DistanceTest(KeepsArguments, unittest.TestCase):
    def assert_as_held(self, m, question, certificate):
        held = holds_reached(m, question, certificate) or holds_apart(m, question, certificate)
        found = accepts_distance(m, *question, certificate)
        self.assertIs(found, held, (m, question, certificate))
        return found

    def test_examples(self):
        self.assert_exactly(distance_certificate(8, (3, 1), 0, 5), ("reached", 3, (4, (2,))))
        self.assertIs(accepts_distance(9, (4, 1), 0, 1, ("apart", 1, 3, (3, (3,)), 0)), False)

    def test_by_name(self):
        self.assertEqual(distance_certificate(y=5, x=0, f=(3, 1), m=8), ("reached", 3, (4, (2,))))
        certificate = ("reached", 3, (4, (2,)))
        self.assertIs(accepts_distance(certificate=certificate, y=5, x=0, f=(3, 1), m=8), True)

    def assert_certificate(self, m, f, x, y):
        certificate = self.call(distance_certificate, m, f, x, y)
        self.assertTrue(self.assert_as_held(m, (f, x, y), certificate))
        self.assert_exactly(distance_certificate(m, f, x, y), certificate)
        n = distance(m, f, x, y)
        if n is None:
            self.assertEqual(certificate[0], "apart")
            self.assertEqual(kinds_of(certificate[1:3] + certificate[4:]), kinds_of((1, 1, 1)))
        else:
            self.assertEqual(certificate[:2], ("reached", n))
        self.assertEqual(kinds_of(certificate[-1 if n is not None else 3]),
                         kinds_of((1, certificate[-1 if n is not None else 3][1])))
        return certificate

    def test_small_moduli_number_by_number(self):
        for m in SMALL_MODULI[:10]:
            for f in all_maps(m):
                for x in range(m):
                    for y in range(m):
                        self.assert_certificate(m, f, x, y)

    def test_exactly_one_form_has_a_valid_certificate(self):
        several = 0
        for m in (2, 3, 4, 6, 8, 9, 12, 30):
            chosen = random.Random(m)
            for f in chosen.sample(all_maps(m), min(len(all_maps(m)), 8)):
                for x, y in [(chosen.randrange(m), chosen.randrange(m)) for _ in range(6)] + [(1, 1)]:
                    valid = [certificate for certificate in self.all_candidates(m, f, x)
                             if self.assert_as_held(m, (f, x, y), certificate)]
                    self.assertEqual(len({certificate[0] for certificate in valid}), 1)
                    self.assertIn(distance_certificate(m, f, x, y), valid)
                    self.assertTrue(len(valid) == 1 or valid[0][0] == "apart")
                    several += len(valid) > 1
        self.assertGreater(several, 20)

    def all_candidates(self, m, f, x):
        candidates = [("reached", n, period_certificate(m, f, x)) for n in range(m + 1)]
        for d in divisors_of(m):
            found = period_certificate(m, f, x, divisor=d)
            for p in (2, 3, 4, 5, 6):
                candidates.extend([("apart", d, p, found, k) for k in range(found[0] + 1)])
        return candidates

    def test_changed_certificates(self):
        accepted = 0
        for m in (2, 4, 12, 36, 10 ** 6, 10 ** 9, 2 ** 29, 901800900):
            for f in many_maps(m)[:8] + [(1, m // primes_of(m)[-1])]:
                for x, y in ((1, 0), (0, m - 1), (1, 1), (5 % m, iterate(m, f, 5 % m, 123456789))):
                    certificate = self.assert_certificate(m, f, x, y)
                    for other in variations(certificate):
                        accepted += self.assert_as_held(m, (f, x, y), other)
        self.assertGreater(accepted, 10)

    def test_certificates_with_other_divisors_and_primes(self):
        accepted = 0
        for m in (12, 60, 2310, 10 ** 6, 10 ** 9, 901800900):
            for f in many_maps(m)[:6] + [(1, 6), (1, m // 2)]:
                for y in (1, 0, m - 1):
                    for d in [d for d in (1, 2, 3, 4, 5, 6, 10, 12, 100, m // 4, m // 2, m) if m % d == 0]:
                        found = period_certificate(m, f, 0, divisor=d)
                        k = distance(d, (f[0] % d, f[1] % d), 0, y % d) if d > 1 else 0
                        for p in (1, 2, 3, 4, 5, 6, 7, 13, 17):
                            for count in {0, k, found[0] - 1, found[0]} - {None}:
                                accepted += self.assert_as_held(m, (f, 0, y), ("apart", d, p, found, count))
                        whole = period_certificate(m, f, 0)
                        self.assert_as_held(m, (f, 0, y), ("apart", d, 2, whole, k))
        self.assertGreater(accepted, 50)

    def test_large_moduli(self):
        forms = []
        for m in LARGE_MODULI + [10 ** 6]:
            for f in many_maps(m):
                n = period(m, f, 1)
                for y in (1, iterate(m, f, 1, n - 1), iterate(m, f, 1, 10 ** 17), 0, m - 1, m // 2, iterate(m, f, 2, 7)):
                    forms.append(self.assert_certificate(m, f, 1, y)[0])
        self.assertGreater(forms.count("reached"), 100)
        self.assertGreater(forms.count("apart"), 100)

    def test_edges(self):
        for m in SMALL_MODULI + LARGE_MODULI:
            self.assert_exactly(distance_certificate(m, (1, 0), 1, 1), ("reached", 0, (1, ())))
            self.assert_exactly(distance_certificate(m, (1, 1), 0, m - 1), ("reached", m - 1, (m, tuple(primes_of(m)))))
            self.assert_false_for(accepts_distance, m, (1, 1), 0, 0, ("reached", m, (m, tuple(primes_of(m)))))
            prime = primes_of(m)[0]
            self.assert_exactly(distance_certificate(m, (1, 0), 0, 1), ("apart", 1, prime, (1, ()), 0))
            last = (m // primes_of(m)[-1]) % m
            certificate = distance_certificate(m, (1, 0), 0, last)
            self.assertEqual(certificate, ("apart", m // primes_of(m)[-1], primes_of(m)[-1], (1, ()), 0))
            self.assertTrue(self.assert_as_held(m, ((1, 0), 0, last), certificate))
            for d in (m, 2 * m, m * m):
                self.assert_as_held(m, ((1, 0), 0, 1), ("apart", d, prime, (1, ()), 0))

    def test_any_value(self):
        for value in hostile_values():
            for m, f, x, y in ((2, (1, 0), 0, 1), (2, (1, 0), 0, 0), (12, (7, 2), 3, 4), (10 ** 9, (1, 2), 0, 1)):
                self.assert_as_held(m, (f, x, y), value)
        for value in any_values():
            self.assert_false_for(accepts_distance, 12, (7, 2), 3, 4, value)


class JointTest(KeepsArguments, unittest.TestCase):
    def assert_as_held(self, m, first, second, certificate):
        found = accepts_joint(m, first, second, certificate)
        self.assertIs(found, holds_joint(m, first, second, certificate), (m, first, second, certificate))
        return found

    def assert_certificate(self, m, first, second):
        certificate = self.call(joint_certificate, m, first, second)
        self.assertTrue(self.assert_as_held(m, first, second, certificate))
        self.assert_exactly(joint_certificate(m, first, second), certificate)
        n = joint_distance(m, first, second)
        self.assertEqual(certificate[0] == "reached", n is not None)
        if n is not None:
            self.assertEqual(certificate[1], n)
        return certificate

    def test_examples(self):
        first, second = ((3, 1), 0, 4), ((5, 0), 1, 5)
        certificate = joint_certificate(8, first, second)
        self.assert_exactly((certificate[0], accepts_joint(8, first, second, certificate)), ("clash", True))
        certificate = ("reached", 15, (9, (3,)), (6, (2, 3)))
        self.assertIs(accepts_joint(9, ((4, 1), 0, 6), ((2, 0), 1, 8), certificate), True)
        self.assert_exactly(joint_certificate(9, ((4, 1), 0, 6), ((2, 0), 1, 8)), certificate)

    def test_by_name(self):
        first, second = ((4, 1), 0, 6), ((2, 0), 1, 8)
        certificate = joint_certificate(second=second, first=first, m=9)
        self.assertIs(accepts_joint(certificate=certificate, second=second, first=first, m=9), True)

    def questions(self, m, count):
        chosen = random.Random(m)
        maps = all_maps(m) if m < 50 else many_maps(m)
        for _ in range(count):
            f, g, x, u = chosen.choice(maps), chosen.choice(maps), chosen.randrange(m), chosen.randrange(m)
            n = chosen.randrange(m)
            y = iterate(m, f, x, n) if chosen.random() < 0.8 else chosen.randrange(m)
            v = iterate(m, g, u, n + chosen.choice([0, 0, 1, 2])) if chosen.random() < 0.8 else chosen.randrange(m)
            yield (f, x, y), (g, u, v)

    def test_all_forms(self):
        for moduli, count in ((SMALL_MODULI, 120), (LARGE_MODULI, 60)):
            forms = [self.assert_certificate(m, *pair)[0] for m in moduli for pair in self.questions(m, count)]
            self.assertEqual(set(forms), {"reached", "first", "second", "clash"})
            self.assertGreater(min(forms.count(form) for form in set(forms)), 20)

    def test_changed_certificates(self):
        accepted = 0
        for m in (2, 4, 12, 36, 10 ** 6, 10 ** 9, 2 ** 29):
            for first, second in self.questions(m, 16):
                certificate = self.assert_certificate(m, first, second)
                for other in variations(certificate):
                    accepted += self.assert_as_held(m, first, second, other)
        self.assertGreater(accepted, 5)

    def test_never_two_of_the_answers(self):
        """Certificates of all forms put together from what each question has; only what point 14 allows is accepted."""
        for m in (4, 6, 8, 9, 12, 10 ** 9):
            for first, second in self.questions(m, 30):
                one, other = distance_certificate(m, *first), distance_certificate(m, *second)
                candidates = [("first", one), ("second", other), ("first", other), ("second", one), ("clash", one, other),
                              ("clash", other, one), ("clash", one, one), one, other]
                periods = (period_certificate(m, *first[:2]), period_certificate(m, *second[:2]))
                for n in (0, 1, one[1], other[1], lcm(periods[0][0], periods[1][0]) + one[1]):
                    candidates += [("reached", n, *periods), ("reached", n, *periods[::-1])]
                candidates.append(joint_certificate(m, first, second))
                valid = [value for value in candidates if self.assert_as_held(m, first, second, value)]
                self.assertNotEqual(valid, [])
                self.assertEqual(len({value[0] == "reached" for value in valid}), 1)

    def test_edges(self):
        stay, turn = ((1, 0), 0, 0), ((1, 1), 0, 1)
        self.assert_exactly(joint_certificate(2, stay, stay), ("reached", 0, (1, ()), (1, ())))
        self.assert_exactly(joint_certificate(2, stay, turn), ("reached", 1, (1, ()), (2, (2,))))
        self.assertEqual(joint_certificate(2, turn, ((1, 1), 1, 1))[0], "clash")
        self.assertEqual(joint_certificate(2, ((1, 0), 0, 1), turn)[0], "first")
        self.assertEqual(joint_certificate(2, turn, ((1, 0), 1, 0))[0], "second")
        self.assert_false_for(accepts_joint, 2, turn, turn, ("reached", 3, (2, (2,)), (2, (2,))))
        self.assert_false_for(accepts_joint, 2, turn, turn, ("reached", -1, (2, (2,)), (2, (2,))))

    def test_any_value(self):
        for value in hostile_values():
            for m, first, second in ((2, ((1, 0), 0, 0), ((1, 0), 1, 1)), (2, ((1, 0), 0, 1), ((1, 1), 0, 1)),
                                     (12, ((7, 2), 3, 4), ((1, 6), 0, 6)), (10 ** 9, ((3, 1), 0, 1), ((1, 2), 0, 1))):
                self.assert_as_held(m, first, second, value)
        for value in any_values():
            self.assert_false_for(accepts_joint, 12, ((7, 2), 3, 4), ((1, 6), 0, 6), value)
