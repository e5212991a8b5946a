import random
import time
import unittest
from itertools import combinations

from affinewalk.maps import compose, inverse
from affinewalk.towers import build_tower, group_order, in_group, is_closed, is_tower, sifts, sifts_number
from tests.literal import (back, both, divisor_chain, group, holds_closed, holds_sifts, holds_sifts_number, holds_tower, image,
                           kind_of_map, random_map)
from tests.support import LARGE_MODULI, SMALL_MODULI, KeepsArguments, all_maps, any_values, structured_maps, variations

TOWER = [[(1, 0), (1, 3)], [(1, 0), (1, 6)], [(1, 0)], [(1, 0)], [(1, 0)], [(1, 0)]]


def other_towers(m, tower, chosen):
    """The tower with one change: maps left out, doubled, exchanged or added, levels and maps in another order."""
    found = []
    for i, level in enumerate(tower):
        head, tail = tower[:i], tower[i + 1:]
        others = [kind_of_map(m, chosen) for _ in range(3)] + [r for other in tower for r in other]
        found += [head + tail, head + [[(1, 0)]] + tower[i:], head + [level, level] + tail, head + [tuple(level)] + tail]
        found += [head + [level[::-1]] + tail, head + [[]] + tail, head + [[(1, 0)]] + tail]
        found += [head + [level + [r]] + tail for r in others]
        for k, r in enumerate(level):
            first, rest = level[:k], level[k + 1:]
            found += [head + [first + rest] + tail, head + [first + [r, r] + rest] + tail, head + [first + [list(r)] + rest] + tail]
            found += [head + [first + [other] + rest] + tail for other in others]
            found += [head + [first + [both(m, s, r)] + rest] + tail for later in tower[i:] for s in later]
            found += [head + [first + [other] + rest] + tail for other in ((True, r[1]), (r[0], False), (r[0] + m, r[1]), (-r[0], r[1]))]
    return found + [tower[::-1], tower[1:] + tower[:1], tuple(tower), tower[0], [tower], tower + tower, tower[:-1], tower + [[(1, 0)]]]


def with_other_maps(m, tower, chosen):
    """A tower of the same group: each map of a level applied behind maps of later levels."""
    found = []
    for i, level in enumerate(tower):
        fresh = []
        for r in level:
            for later in tower[:i:-1]:
                r = both(m, chosen.choice(later), r) if r != (1, 0) else r
            fresh.append(r)
        found.append(chosen.sample(fresh, len(fresh)))
    return found


class SmallTowersTest(KeepsArguments, unittest.TestCase):
    def test_examples(self):
        self.assert_exactly([is_tower(4, 1, [[(1, 0), (1, 1)], [(1, 0)], [(1, 0)], [(1, 0), (3, 2)]]),
                             is_tower(4, 1, [[(1, 0), (1, 2)], [(1, 0)], [(1, 0)], [(1, 0)]])], [True, False])
        self.assert_exactly([sifts(12, 0, TOWER, (1, 9)), sifts(12, 0, TOWER, (1, 1)), sifts(12, 0, TOWER, (1, 9), level=1)],
                            [True, False, False])
        self.assert_exactly([sifts_number(12, 0, TOWER, 9), sifts_number(12, 0, TOWER, 4)], [True, False])
        self.assert_exactly([is_closed(4, 0, [[(1, 0), (1, 1)], [(1, 0), (1, 2)], [(1, 0)], [(1, 0)]]),
                             is_closed(4, 0, [[(1, 0), (1, 1)], [(1, 0)], [(1, 0)], [(1, 0)]])], [True, False])
        self.assert_exactly(build_tower(4, 0, []), [[(1, 0)], [(1, 0)], [(1, 0)], [(1, 0)]])

    def test_by_name(self):
        self.assertIs(is_tower(value=TOWER, x=0, m=12), True)
        self.assertIs(sifts(level=0, h=(1, 9), tower=TOWER, x=0, m=12), True)
        self.assertIs(sifts_number(z=9, tower=TOWER, x=0, m=12), True)
        self.assertIs(is_closed(value=TOWER, x=0, m=12), True)
        self.assertIs(is_closed(4, 0, build_tower(maps=((3, 1),), x=0, m=4)), True)
        self.assertEqual(group_order(maps=[(5, 0)], m=12), 2)
        self.assertIs(in_group(h=(5, 0), maps=[(5, 0)], m=12), True)
        with self.assertRaises(TypeError):
            sifts(12, 0, TOWER, (1, 9), 1)

    def assert_tower_of(self, m, x, maps):
        tower = self.call(build_tower, m, x, maps)
        self.assert_exactly(build_tower(m, x, tuple(maps)), tower)
        self.assertIs(holds_closed(m, x, tower), True, (m, x, maps))
        self.assertIs(self.call(is_tower, m, x, tower), True)
        self.assertIs(self.call(is_closed, m, x, tower), True)
        members = group(m, maps)
        self.assert_exactly(self.call(group_order, m, maps), len(members))
        images = {image(m, f, x) for f in members}
        for z in range(m):
            self.assertIs(self.call(sifts_number, m, x, tower, z), z in images)
        for f in all_maps(m)[::max(1, m // 6)] + sorted(members)[:20]:
            self.assertIs(self.call(in_group, m, maps, f), f in members)
            self.assertIs(self.call(sifts, m, x, tower, f), f in members)
        return tower

    def test_all_pairs_of_maps_of_tiny_moduli(self):
        for m in (2, 3, 4, 5, 6):
            for count in (0, 1, 2):
                for maps in combinations(all_maps(m), count):
                    for x in (0, 1, m - 1):
                        self.assert_tower_of(m, x, list(maps))

    def test_small_moduli(self):
        for m in SMALL_MODULI + [25, 26, 27, 30, 32, 36, 49]:
            chosen = random.Random(m)
            for count in (0, 1, 1, 2, 3, 5):
                maps = [kind_of_map(m, chosen) for _ in range(count)]
                for x in {0, m - 1, chosen.randrange(m)}:
                    self.assert_tower_of(m, x, maps + maps[:1])

    def test_sifting_from_every_level(self):
        for m in (2, 4, 6, 9, 12, 13):
            chosen = random.Random(m)
            for _ in range(4):
                x = chosen.randrange(m)
                tower = build_tower(m, x, [kind_of_map(m, chosen) for _ in range(3)])
                # Towers need not be closed.
                for some in (tower, [level[:2] for level in tower], [level[:1] for level in tower]):
                    self.assertIs(is_tower(m, x, some), True)
                    for h in all_maps(m):
                        self.assertIs(self.call(sifts, m, x, some, h), holds_sifts(m, x, some, h))
                        for level in range(len(some)):
                            self.assertIs(sifts(m, x, some, h, level=level), holds_sifts(m, x, some, h, level))
                    for z in range(m):
                        self.assertIs(self.call(sifts_number, m, x, some, z), holds_sifts_number(m, x, some, z))

    def test_towers_by_another_hand(self):
        accepted = {False: 0, True: 0}
        for m in (2, 4, 6, 8, 9, 12, 13):
            chosen = random.Random(m)
            for count in (0, 1, 2, 2):
                x = chosen.choice([0, m - 1, chosen.randrange(m)])
                tower = build_tower(m, x, [kind_of_map(m, chosen) for _ in range(count)])
                for other in [with_other_maps(m, tower, chosen)] + other_towers(m, tower, chosen):
                    self.assertIs(self.call(is_tower, m, x, other), holds_tower(m, x, other), (m, x, other))
                    found = self.call(is_closed, m, x, other)
                    self.assertIs(found, holds_closed(m, x, other), (m, x, other))
                    accepted[found] += 1
        self.assertGreater(accepted[True], 300)
        self.assertGreater(accepted[False], 3000)

    def test_towers_changed_at_any_depth(self):
        for m, x, maps in ((4, 0, [(1, 1)]), (6, 5, [(5, 2), (1, 3)]), (12, 7, [(7, 3), (1, 4)])):
            tower = build_tower(m, x, maps)
            for other in variations(tower):
                self.assertIs(self.call(is_tower, m, x, other), holds_tower(m, x, other), other)
                self.assertIs(self.call(is_closed, m, x, other), holds_closed(m, x, other), other)

    def test_towers_for_another_number_or_modulus(self):
        chosen = random.Random(3)
        for m in (4, 6, 9, 12):
            for _ in range(10):
                x = chosen.randrange(m)
                tower = build_tower(m, x, [kind_of_map(m, chosen)])
                for y in range(m):
                    self.assertIs(is_tower(m, y, tower), holds_tower(m, y, tower))
                    self.assertIs(is_closed(m, y, tower), holds_closed(m, y, tower))
                for other in (4, 6, 9, 12, 8, 18):
                    self.assertIs(is_tower(other, 0, tower), holds_tower(other, 0, tower))

    def test_any_value(self):
        for m in (2, 12, 13 ** 8):
            size = 2 * (len(divisor_chain(m)) - 1)
            for value in any_values():
                for other in (value, [value], [value] * size, [[value]] * size, [[(1, 0)]] * (size - 1) + [value],
                              [[(1, 0), value]] + [[(1, 0)]] * (size - 1)):
                    if holds_tower(m, 0, other):
                        continue
                    self.assert_false_for(is_tower, m, 0, other)
                    self.assert_false_for(is_closed, m, 0, other)
            self.assertIs(is_tower(m, 0, [[(1, 0)]] * size), True)
            self.assertIs(is_closed(m, m - 1, [[(1, 0)]] * size), True)

    def test_changed_results_change_nothing(self):
        maps = [(5, 1), (1, 6)]
        tower = build_tower(12, 1, maps)
        for level in build_tower(12, 1, maps):
            level.clear()
        self.assert_exactly(build_tower(12, 1, maps), tower)
        self.assertEqual(maps, [(5, 1), (1, 6)])


class LargeTowersTest(KeepsArguments, unittest.TestCase):
    def known_groups(self, m):
        """Lists of maps with the orders of their groups."""
        primes = [d // e for e, d in zip(divisor_chain(m), divisor_chain(m)[1:])]
        units = m
        for prime in set(primes):
            units = units // prime * (prime - 1)
        generators = [a for a in (3, 5, 7, 11, 13, 17, 19, 23, 29, 31, 37, 41, m - 1) if m % a != 0]
        step = primes[0] * primes[-1]
        yield [], 1
        yield [(1, 1)], m
        yield [(1, step % m)], m // step if m > step else 1
        yield [(1, 6), (1, 10), (1, 15)], m
        yield [(m - 1, 0)], min(2, m - 1)
        yield [(m - 1, 5 % m), (1, 1)], 2 * m if m > 2 else m
        yield [(a, 0) for a in generators] + [(1, 1)], units * m
        yield [(a, (1 - a) * 7 % m) for a in generators], units

    def test_orders_of_known_groups(self):
        for m in LARGE_MODULI:
            for maps, order in self.known_groups(m):
                chosen = random.Random(order)
                for x in (0, m - 1, chosen.randrange(m)):
                    start = time.process_time()
                    tower = build_tower(m, x, maps)
                    product, images = 1, 1
                    for j, level in enumerate(tower):
                        product *= len(level)
                        images *= len(level) if j < len(tower) // 2 else 1
                    self.assertEqual(product, order, (m, maps))
                    self.assertIs(is_closed(m, x, tower), True)
                    if maps == [] or maps[-1] != (1, 1):
                        self.assertLessEqual(images, order)
                    else:
                        self.assertEqual(images, m)
                    self.assertLess(time.process_time() - start, 20)
                self.assert_exactly(group_order(m, maps), order)

    def test_members_and_others(self):
        for m in LARGE_MODULI:
            chosen = random.Random(m)
            for maps in [structured_maps(m)[:3], structured_maps(m)[3:6], [random_map(m, chosen)], []]:
                x = chosen.choice([0, m - 1, chosen.randrange(m)])
                tower = build_tower(m, x, maps)
                order = group_order(m, maps)
                f = (1, 0)
                for _ in range(12):
                    if maps:
                        f = compose(m, f, chosen.choice([g for h in maps for g in (h, inverse(m, h))]))
                    self.assertIs(sifts(m, x, tower, f), True)
                    self.assertIs(in_group(m, maps, f), True)
                    self.assertIs(sifts_number(m, x, tower, image(m, f, x)), True)
                    h = random_map(m, chosen)
                    inside = in_group(m, maps, h)
                    self.assertIs(inside, holds_sifts(m, x, tower, h))
                    self.assertEqual(inside, group_order(m, list(maps) + [h]) == order)
                    z = chosen.randrange(m)
                    self.assertIs(sifts_number(m, x, tower, z), holds_sifts_number(m, x, tower, z))

    def test_the_order_does_not_depend_on_the_number_or_the_order_of_the_maps(self):
        for m in LARGE_MODULI:
            chosen = random.Random(m + 2)
            maps = chosen.sample(structured_maps(m), 4)
            order = group_order(m, maps)
            for _ in range(3):
                chosen.shuffle(maps)
                product = 1
                for level in build_tower(m, chosen.randrange(m), maps + maps):
                    product *= len(level)
                self.assertEqual(product, order)

    def test_towers_by_another_hand(self):
        for m in (10 ** 9, 13 ** 8, 2 ** 29, 60 * 13 ** 6):
            chosen = random.Random(m + 3)
            x = chosen.randrange(m)
            maps = [(1, 60 * 13), (1 + 2 * 3 * 5 * 13, 0)] if m != 2 ** 29 else [(1, 2 ** 12), (2 ** 20 + 1, 2 ** 18)]
            tower = build_tower(m, x, maps)
            same = with_other_maps(m, tower, chosen)
            self.assertNotEqual(same, tower)
            self.assertIs(holds_closed(m, x, same), True)
            self.assertIs(is_closed(m, x, same), True)
            count = 0
            for other in chosen.sample(other_towers(m, tower, chosen), 150):
                fits = holds_tower(m, x, other)
                self.assertIs(is_tower(m, x, other), fits)
                if fits and count < 4:
                    self.assertIs(is_closed(m, x, other), holds_closed(m, x, other))
                    count += 1
            self.assertEqual(count, 4)
            for other in chosen.sample(variations(tower), 200):
                if not holds_tower(m, x, other):
                    self.assert_false_for(is_tower, m, x, other)
                    self.assert_false_for(is_closed, m, x, other)

    def test_images_of_many_generators(self):
        for m in LARGE_MODULI:
            chosen = random.Random(m + 5)
            step = divisor_chain(m)[2]
            maps = [(1 + step * chosen.randrange(m // step), step * chosen.randrange(m // step)) for _ in range(300)]
            maps = [f for f in ((a % m, b) for a, b in maps) if all(f[0] % p for p in (2, 3, 5, 7, 11, 13) if m % p == 0)]
            tower = build_tower(m, 1, maps)
            for f in maps[:20]:
                self.assertIs(sifts(m, 1, tower, f), True)
            self.assertIs(sifts_number(m, 1, tower, 2 % m), (1 - 2) % step == 0)
            self.assertIs(sifts(m, 1, tower, back(m, maps[-1])), True)


if __name__ == "__main__":
    unittest.main()
