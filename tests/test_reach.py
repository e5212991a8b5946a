import random
import time
import unittest

from affinewalk.classes import loops, part, tree_paths
from affinewalk.compressed import compressed_map, expand, follow_compressed, is_compressed, step_count
from affinewalk.exclusions import excludes, exclusion, is_accepted
from affinewalk.maps import compose, inverse
from affinewalk.networks import Network
from affinewalk.paths import follow, path_map
from affinewalk.reach import can_reach, reach, reach_by_map
from affinewalk.rows import depths
from affinewalk.states import class_of
from affinewalk.towers import in_group
from tests.literal import all_states, distances, large_networks, path_maps, random_map, small_networks
from tests.support import LARGE_MODULI, KeepsArguments, all_maps, first_network, kinds_of
from tests.test_exclusions import some_states, walk


class LeadsTo(KeepsArguments):
    def assert_leads(self, network, state, other):
        """A path that is returned is a compressed path of exact kinds, and the same one again."""
        path = self.call(reach, network, state, other)
        self.assert_compressed(path)
        self.assert_exactly(follow_compressed(network, state, path), other)
        self.assert_exactly(reach(network, state, other), path)
        return path

    def assert_compressed(self, path):
        self.assertIs(is_compressed(path), True)
        for row in path:
            for item in row:
                self.assertIn(kinds_of(item), [(tuple, [str, str]), (tuple, [int, int])])


class ReachTest(LeadsTo, unittest.TestCase):
    def test_examples(self):
        network = first_network()
        self.assert_exactly([can_reach(network, ("a", 0), ("b", 4)), can_reach(network, ("a", 0), ("a", 1))], [True, False])
        self.assertEqual(follow_compressed(network, ("a", 0), reach(network, ("a", 0), ("a", 11))), ("a", 11))
        path = reach_by_map(network, ("a", 0), ("b", 1), (1, 10))
        self.assertEqual(compressed_map(network, ("a", 0), path), (1, 10))

    def test_by_name(self):
        network = first_network()
        self.assertIs(can_reach(other=("b", 4), state=("a", 0), network=network), True)
        self.assertEqual(reach(other=("a", 11), state=("a", 0), network=network), reach(network, ("a", 0), ("a", 11)))
        self.assertEqual(reach_by_map(f=(1, 10), place=("b", 1), state=("a", 0), network=network),
                         reach_by_map(network, ("a", 0), ("b", 1), (1, 10)))

    def test_small_networks_by_search(self):
        count = 0
        for network in small_networks(21, 80):
            for state in some_states(network, 2):
                reached = distances(network, state)
                for other in all_states(network):
                    self.assertIs(self.call(can_reach, network, state, other), other in reached)
                    if other in reached:
                        path = self.assert_leads(network, state, other)
                        if step_count(path) < 1000:
                            self.assertEqual(follow(network, state, expand(path))[-1], other)
                            count += 1
                    else:
                        self.assertIsNone(self.call(reach, network, state, other))
        self.assertGreater(count, 1000)

    def test_maps_in_small_networks_by_search(self):
        for network in small_networks(22, 50):
            m = network.modulus()
            for state in some_states(network, 0)[:2]:
                wanted = path_maps(network, state)
                for place in [(node, r) for node in network.nodes() for r in range(network.watch())]:
                    for f in all_maps(m)[::1 if m < 10 else 3] + [f for end, f in wanted if end == place][:3]:
                        path = self.call(reach_by_map, network, state, place, f)
                        if (place, f) not in wanted:
                            self.assertIsNone(path)
                            continue
                        self.assert_compressed(path)
                        self.assert_exactly(compressed_map(network, state, path), f)
                        self.assertEqual(class_of(network, follow_compressed(network, state, path)), place)

    def test_the_state_itself(self):
        for network in small_networks(23, 20) + large_networks():
            for state in some_states(network, 1):
                path = self.assert_leads(network, state, state)
                self.assertIs(can_reach(network, state, state), True)
                self.assertEqual(step_count(path), 0)
                path = reach_by_map(network, state, class_of(network, state), (1, 0))
                self.assert_exactly(compressed_map(network, state, path), (1, 0))

    def test_classes_of_other_parts_and_maps_of_other_classes(self):
        network = Network(12, 3, ["a", "b", "c"], [("e", "a", "b", (5, 1), [0]), ("f", "b", "a", (7, 2), [1]), ("g", "c", "c", (1, 1), [0, 1, 2])])
        for place in (("a", 1), ("b", 0), ("c", 0), ("c", 2)):
            for f in all_maps(12):
                self.assertIsNone(reach_by_map(network, ("a", 0), place, f))
        self.assertIsNone(reach(network, ("a", 0), ("a", 1)))
        self.assertIsNone(reach(network, ("a", 0), ("c", 0)))
        for place, path in tree_paths(network, ("a", 3)).items():
            f = path_map(network, ("a", 3), path)
            for other in part(network, ("a", 3)):
                found = reach_by_map(network, ("a", 3), other, f)
                self.assertEqual(found is not None, other == place)

    def test_changed_results_change_nothing(self):
        network = first_network()
        for function, arguments in ((reach, (network, ("a", 0), ("a", 11))), (reach_by_map, (network, ("a", 0), ("b", 1), (1, 10)))):
            before = function(*arguments)
            again = function(*arguments)
            for row in again:
                row.clear()
            again.append([])
            self.assert_exactly(function(*arguments), before)


class LargeReachTest(LeadsTo, unittest.TestCase):
    def test_every_two_states(self):
        """Exactly one of both: a path is returned, or the returned exclusion excludes the second state."""
        kinds = {False: 0, True: 0}
        for network in large_networks():
            chosen = random.Random(network.modulus() + 11)
            for state in some_states(network, 1)[2:]:
                value = exclusion(network, state)
                self.assertIs(is_accepted(network, state, value), True)
                others = walk(network, state, chosen, 12)[-3:]
                others += [(chosen.choice(network.nodes()), chosen.randrange(network.modulus())) for _ in range(4)]
                for other in others:
                    start = time.process_time()
                    path = reach(network, state, other)
                    self.assertIs(can_reach(network, state, other), path is not None)
                    self.assertIs(excludes(network, state, value, other), path is None)
                    if path is not None:
                        self.assert_leads(network, state, other)
                        self.assert_leads(network, other, state)
                    else:
                        self.assertIsNone(reach(network, other, state))
                    self.assertLess(time.process_time() - start, 20)
                    kinds[path is not None] += 1
        self.assertGreater(min(kinds.values()), 40)

    def test_maps_of_walks(self):
        for network in large_networks():
            chosen = random.Random(network.modulus() + 13)
            m = network.modulus()
            state = (network.nodes()[0], m - 1)
            closed = [(path, path_map(network, state, path)) for path in loops(network, state)]
            for place, path in list(tree_paths(network, state).items())[::101]:
                f = path_map(network, state, path)
                for _ in range(10):
                    if closed:
                        h = chosen.choice(closed)[1]
                        f = compose(m, chosen.choice([h, inverse(m, h)]), f)
                found = self.call(reach_by_map, network, state, place, f)
                self.assert_compressed(found)
                self.assert_exactly(compressed_map(network, state, found), f)
                self.assertEqual(class_of(network, follow_compressed(network, state, found)), place)
                f = random_map(m, chosen)
                found = reach_by_map(network, state, place, f)
                h = compose(m, f, inverse(m, path_map(network, state, path)))
                self.assertIs(found is not None, in_group(m, [g for _, g in closed], h))

    def test_long_orbits(self):
        for m in LARGE_MODULI:
            network = Network(m, 1, ["a"], [("e", "a", "a", (1, 1), [0])])
            for x, y in ((0, m - 1), (m - 1, 0), (m // 2, m // 3), (1, 0)):
                path = self.assert_leads(network, ("a", x), ("a", y))
                self.assertLess(max(depths(path)), 100)
            f = (1 + 30030, 7) if m % 7 != 0 and m != 30030 else (1, 17)
            network = Network(m, 1, ["a", "b"], [("e", "a", "b", f, [0]), ("f", "a", "b", (1, 0), [0])])
            path = self.assert_leads(network, ("a", 5), follow(network, ("a", 5), [("e", "forward"), ("f", "backward")] * 50)[-1])
            self.assertLess(max(depths(path)), 100)

    def test_depth_stays_within_the_limits(self):
        """Groups with many levels, of maps of which each adds only a little to the group of those before."""
        for m in LARGE_MODULI:
            primes = [p for p in (2, 3, 5, 7, 11, 13) if m % p == 0]
            steps = [1]
            for p in primes:
                steps += [p ** k for k in range(1, 30) if m % p ** k == 0]
            maps = []
            for step in steps[::-1]:
                maps += [(1 + step, 0), (1 + step, step), (1, step), (m - 1, step), (1 + step, 5 * step)]
            fits = [(a % m, b % m) for a, b in maps if all(a % p for p in primes)]
            for order in (1, -1):
                some = fits[::order][:24]
                edges = [("e" + chr(97 + k), "a", "a", f, [0]) for k, f in enumerate(some)]
                network = Network(m, 1, ["a"], edges)
                for x in (0, 1, m - 1):
                    for other in walk(network, ("a", x), random.Random(x), 100)[-3:]:
                        path = self.assert_leads(network, ("a", x), other)
                        self.assertLess(max(depths(path)), 150)
                        self.assertLess(len(path), 800)

    def test_tree_paths_that_are_longer_than_rows(self):
        network = large_networks()[-1]
        state = ("a", 0)
        places = tree_paths(network, state)
        longest = max(places.values(), key=len)
        self.assertEqual(len(longest), 479)
        far = follow(network, state, longest)[-1]
        self.assert_leads(network, state, far)
        for end in (state, far):
            for count in (60, 60 * 16000000, -60 * 31):
                other = (end[0], (end[1] + count) % network.modulus())
                self.assert_leads(network, state, other)
                self.assert_leads(network, other, state)
        f = compose(network.modulus(), path_map(network, state, longest), (121, 60 + 60 * 7))
        found = reach_by_map(network, state, class_of(network, far), f)
        self.assert_compressed(found)
        self.assert_exactly(compressed_map(network, state, found), f)


if __name__ == "__main__":
    unittest.main()
