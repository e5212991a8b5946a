import random
import unittest

from affinewalk.maps import iterate
from affinewalk.orbits import period
from affinewalk.segments import first_overlap
from tests.support import LARGE_MODULI, KeepsArguments, Number, Row, all_maps, large_maps, orbit, structured_maps


def overlap_by_counting(m, f, starts, n):
    """The first overlap, by writing the segments down; a segment longer than the cycle has all its numbers early on."""
    segments = [(orbit(m, f, x) * (1 + n // len(orbit(m, f, x)) if n < 3 * m else 3))[:n] for x in starts]
    for j in range(len(starts)):
        for i in range(j):
            shared = [k for k, y in enumerate(segments[j]) if y in segments[i]]
            if shared:
                return (i, j, shared[0])
    return None


def overlap_of_intervals(m, starts, n):
    """The first overlap under x -> x + 1, whose segments are intervals on a circle."""
    for j, y in enumerate(starts):
        for i, x in enumerate(starts[:j]):
            if (y - x) % m < n:
                return (i, j, 0)
            if (x - y) % m < n:
                return (i, j, (x - y) % m)
    return None


class FirstOverlapTest(KeepsArguments, unittest.TestCase):
    def test_example(self):
        self.assert_exactly(first_overlap(8, (3, 1), [0, 2, 5], 2), (0, 2, 1))

    def test_by_name(self):
        self.assertEqual(first_overlap(n=2, starts=(0, 2, 5), f=(3, 1), m=8), (0, 2, 1))

    def test_two_starts_number_by_number(self):
        for m in (2, 3, 4, 6, 8, 9):
            for f in all_maps(m):
                for x in range(m):
                    for y in range(m):
                        for n in (1, 2, 3, m - 1, m, m + 1, 10 ** 18):
                            found = first_overlap(m, f, [x, y], n)
                            self.assertEqual(found, overlap_by_counting(m, f, [x, y], n), (m, f, x, y, n))

    def test_several_starts_by_counting(self):
        answers = set()
        for m in (12, 16, 30, 36, 60, 210):
            chosen = random.Random(m)
            for f in chosen.sample(all_maps(m), 40):
                starts = [chosen.randrange(m) for _ in range(chosen.choice([1, 2, 3, 5, 8]))]
                for n in (1, 2, chosen.randrange(1, m), m, 10 ** 18):
                    found = self.call(first_overlap, m, f, starts, n)
                    self.assert_exactly(found, overlap_by_counting(m, f, starts, n))
                    self.assert_exactly(self.call(first_overlap, m, f, tuple(starts), n), found)
                    answers.add(found)
        self.assertIn(None, answers)
        self.assertGreater(len(answers), 30)
        self.assertGreater(max(found[2] for found in answers if found), 5)

    def test_no_start_and_one_start(self):
        for m in (2, 12, 10 ** 9):
            for f in ((1, 0), (1, 1), (m - 1, 0)):
                for n in (1, 2, 10 ** 18):
                    self.assertIsNone(first_overlap(m, f, [], n))
                    self.assertIsNone(first_overlap(m, f, (), n))
                    self.assertIsNone(first_overlap(m, f, [m - 1], n))

    def test_equal_starts(self):
        for m in (2, 12, 10 ** 9):
            for f in ((1, 0), (1, 1), (m - 1, 1)):
                for n in (1, 2, 10 ** 18):
                    self.assert_exactly(first_overlap(m, f, [1, 1], n), (0, 1, 0))
                    self.assert_exactly(first_overlap(m, (1, 0), [0, 1, 1, 0], n), (1, 2, 0))
                    self.assertEqual(first_overlap(m, f, [1] * 50, n), (0, 1, 0))

    def test_smallest_later_start_first_then_the_smallest_earlier_one(self):
        m = 10 ** 9
        self.assertEqual(first_overlap(m, (1, 1), [100, 500, 95, 505], 10), (0, 2, 5))
        self.assertEqual(first_overlap(m, (1, 1), [100, 120, 109], 20), (0, 2, 0))
        self.assertEqual(first_overlap(m, (1, 1), [120, 95, 109], 20), (0, 2, 11))
        self.assertEqual(first_overlap(m, (1, 1), [125, 100, 115], 15), (0, 2, 10))

    def test_intervals_of_large_moduli(self):
        for m in LARGE_MODULI:
            chosen = random.Random(m)
            for count in (2, 5, 12, 50):
                starts = [chosen.randrange(m) for _ in range(count)]
                gap = min((x - y) % m for i, x in enumerate(starts) for j, y in enumerate(starts) if i != j)
                for n in (1, gap, gap + 1, 2 * gap + 1, m // count, m // 2, m - 1, m, 10 ** 18):
                    if n >= 1:
                        found = self.call(first_overlap, m, (1, 1), starts, n)
                        self.assert_exactly(found, overlap_of_intervals(m, starts, n))
                self.assertIsNone(first_overlap(m, (1, 1), starts, gap) if gap else None)

    def test_known_places_on_one_cycle(self):
        for m in LARGE_MODULI:
            for f in structured_maps(m) + large_maps(m)[::3]:
                around = period(m, f, 1)
                if around < 60:
                    continue
                places = [0, around // 2, around // 3]
                starts = [iterate(m, f, 1, place) for place in places]
                for n in (1, around // 6, around // 6 + 1, around // 3, around // 3 + 1, around // 2, around, 10 ** 18):
                    self.assertEqual(first_overlap(m, f, starts, n), overlap_of_intervals(around, places, n))

    def test_numbers_of_different_cycles(self):
        for m in LARGE_MODULI:
            self.assertIsNone(first_overlap(m, (1, 0), list(range(50)), 10 ** 18))
            if m % 2 == 0:
                self.assertIsNone(first_overlap(m, (1, 2), [0, 1], 10 ** 18))
                self.assertEqual(first_overlap(m, (1, 2), [0, 1, m - 2], 10), (0, 2, 1))
                self.assertEqual(first_overlap(m, (1, 2), [0, 1, m - 1], 10), (1, 2, 1))
                self.assertIsNone(first_overlap(m, (1, 2), [0, 1, m - 1], 1))

    def test_fifty_starts_without_an_overlap(self):
        for m in (2 ** 29, 10 ** 9, 901800900):
            starts = [k * (m // 50) // 2 * 2 for k in range(50)]
            self.assertIsNone(first_overlap(m, (1, 2), starts, 1000))
            self.assertIsNone(first_overlap(m, (1, 0), starts, 10 ** 18))

    def test_derived_kinds_give_plain_results(self):
        found = first_overlap(Number(8), Row((Number(3), Number(1))), [Number(0), Number(2), Number(5)], Number(2))
        self.assert_exactly(found, (0, 2, 1))
