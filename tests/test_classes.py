import random
import unittest

from affinewalk.classes import loops, part, same_part, tree_paths
from affinewalk.networks import Network
from affinewalk.paths import follow, path_map, steps, take_step
from affinewalk.states import class_of
from affinewalk.towers import group_order, in_group
from tests.literal import (all_states, class_distances, group, home_group, large_networks, random_map, small_networks)
from tests.support import KeepsArguments, first_network, random_parts


class ClassesTest(KeepsArguments, unittest.TestCase):
    def test_examples(self):
        network = first_network()
        self.assert_exactly(part(network, ("a", 9)), [("a", 0), ("a", 2), ("b", 1)])
        wanted = {("a", 0): (), ("a", 2): (("e", "forward"), ("f", "forward")), ("b", 1): (("e", "forward"),)}
        self.assert_exactly(tree_paths(network, ("a", 0)), wanted)
        self.assertEqual(list(tree_paths(network, ("a", 0))), list(wanted))

    def test_by_name(self):
        network = first_network()
        self.assertEqual(part(state=("a", 9), network=network), part(network, ("a", 9)))
        self.assertIs(same_part(other=("b", 4), state=("a", 9), network=network), True)
        self.assertEqual(tree_paths(state=("a", 9), network=network), tree_paths(network, ("a", 9)))
        self.assertEqual(loops(state=("a", 9), network=network), loops(network, ("a", 9)))

    def test_small_networks_by_search(self):
        for network in small_networks(1, 60):
            for state in all_states(network)[::3]:
                wanted = class_distances(network, state)
                self.assert_exactly(self.call(part, network, state), sorted(wanted))
                paths = self.call(tree_paths, network, state)
                self.assertEqual(list(paths), sorted(wanted))
                for place, path in paths.items():
                    self.assertIs(type(path), tuple)
                    self.assertEqual(len(path), wanted[place])
                    self.assertEqual(class_of(network, follow(network, state, path)[-1]), place)
                for other in all_states(network)[::2]:
                    self.assertIs(self.call(same_part, network, state, other), class_of(network, other) in wanted)

    def test_loops_generate_the_home_group(self):
        for network in small_networks(2, 60):
            m = network.modulus()
            for state in all_states(network)[::5]:
                found = self.call(loops, network, state)
                self.assert_loops(network, state, found)
                self.assertEqual(group(m, [path_map(network, state, path) for path in found]), home_group(network, state))

    def assert_loops(self, network, state, found):
        self.assertIs(type(found), list)
        self.assert_exactly(loops(network, state), found)
        for path in found:
            self.assertIs(type(path), tuple)
            self.assertEqual(class_of(network, follow(network, state, path)[-1]), class_of(network, state))

    def test_every_class_is_in_one_part(self):
        for network in small_networks(3, 30) + large_networks():
            left = [(node, r) for node in network.nodes() for r in range(network.watch())]
            while left:
                found = part(network, left[0])
                for place in found:
                    left.remove(place)
                self.assertEqual(part(network, found[-1]), found)

    def test_large_networks(self):
        for network in large_networks() + [Network(*random_parts(seed)) for seed in range(20)]:
            chosen = random.Random(network.modulus())
            state = (chosen.choice(network.nodes()), chosen.randrange(network.modulus()))
            wanted = class_distances(network, state)
            paths = tree_paths(network, state)
            self.assertEqual(list(paths), sorted(wanted))
            self.assertEqual(part(network, state), sorted(wanted))
            self.assertEqual({place: len(path) for place, path in paths.items()}, wanted)
            for place, path in list(paths.items())[::7]:
                end = follow(network, state, path)[-1]
                self.assertEqual(class_of(network, end), place)
                self.assertEqual(len(tree_paths(network, end)[class_of(network, state)]), len(path))
            self.assert_loops(network, state, loops(network, state))

    def test_walks_stay_in_the_part_and_come_back_in_the_home_group(self):
        for network in large_networks():
            chosen = random.Random(network.modulus() + 1)
            m = network.modulus()
            state = (network.nodes()[0], chosen.randrange(m))
            paths = tree_paths(network, state)
            maps = [path_map(network, state, path) for path in loops(network, state)]
            walk = []
            at = state
            for _ in range(40):
                ways = steps(network, at)
                if ways:
                    walk.append(chosen.choice(ways))
                    at = take_step(network, at, walk[-1])
                self.assertIn(class_of(network, at), paths)
                self.assertIs(same_part(network, state, at), True)
            closed = walk + [(name, "backward" if word == "forward" else "forward")
                             for name, word in reversed(paths[class_of(network, at)])]
            self.assertIs(in_group(m, maps, path_map(network, state, closed)), True)

    def test_home_groups_of_large_networks_do_not_depend_on_the_class(self):
        for network in large_networks():
            m = network.modulus()
            orders = set()
            for place in part(network, (network.nodes()[0], m - 1))[::41]:
                orders.add(group_order(m, [path_map(network, place, path) for path in loops(network, place)]))
            self.assertEqual(len(orders), 1)

    def test_loops_of_one_node(self):
        for m in (2, 12, 10 ** 9):
            maps = [random_map(m, random.Random(seed)) for seed in range(5)]
            edges = [("e" + "abcde"[k], "a", "a", f, [0]) for k, f in enumerate(maps)]
            found = [path_map(Network(m, 1, ["a"], edges), ("a", 0), path) for path in loops(Network(m, 1, ["a"], edges), ("a", 0))]
            self.assertEqual(group_order(m, found), group_order(m, maps))
            self.assertTrue(all(in_group(m, found, f) for f in maps))
            self.assert_exactly(loops(Network(m, 1, ["a"], []), ("a", m - 1)), [])
            self.assert_exactly(part(Network(m, 2, ["b", "a"], []), ("a", m - 1)), [("a", 1)])
            self.assert_exactly(tree_paths(Network(m, 2, ["b", "a"], []), ("a", m - 1)), {("a", 1): ()})

    def test_changed_results_change_nothing(self):
        network = first_network()
        for function in (part, tree_paths, loops):
            before = function(network, ("a", 0))
            function(network, ("a", 0)).clear()
            self.assert_exactly(function(network, ("a", 0)), before)
        self.assertTrue(network == first_network())


if __name__ == "__main__":
    unittest.main()
