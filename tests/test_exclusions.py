import random
import time
import unittest

from affinewalk.exclusions import excludes, exclusion, is_accepted
from affinewalk.networks import Network
from affinewalk.paths import steps, take_step
from affinewalk.towers import build_tower
from tests.literal import (all_states, back, both, distances, holds_closed, holds_entries, holds_excludes, holds_exclusion,
                           kind_of_map, large_networks, random_map, small_networks)
from tests.support import KeepsArguments, all_maps, any_values, first_network, kinds_of, variations
from tests.test_towers import other_towers, with_other_maps


def some_states(network, count):
    chosen = random.Random(network.modulus() + count)
    m = network.modulus()
    return [(node, x) for node in network.nodes()[:2] for x in {0, m - 1}] + [
        (chosen.choice(network.nodes()), chosen.randrange(m)) for _ in range(count)]


def walk(network, state, chosen, count):
    """States along a walk from the state."""
    found = [state]
    for _ in range(count):
        ways = steps(network, found[-1])
        if ways:
            found.append(take_step(network, found[-1], chosen.choice(ways)))
    return found


def other_entries(network, entries, chosen):
    """The entries with one change."""
    m = network.modulus()
    maps = [kind_of_map(m, chosen), (1, 0), (1, 1), (m - 1, 0)]
    found = [entries[::-1], entries[1:] + entries[:1], [], entries + entries, tuple(entries), entries + [None], dict(entries)]
    for node in network.nodes():
        for r in (0, network.watch() - 1, network.watch(), -1, True):
            found += [entries + [((node, r), f)] for f in maps]
    for k, (place, t) in enumerate(entries):
        first, rest = entries[:k], entries[k + 1:]
        found += [first + rest, first + [(place, t), (place, t)] + rest, first + [[place, t]] + rest, first + [(list(place), t)] + rest]
        found += [first + [(place, f)] + rest for f in maps + [both(m, t, f) for f in maps] + [list(t), None, (t[0], True)]]
        found += [first + [(place, t, t)] + rest, first + [(place,)] + rest, first + [((place[0], True), t)] + rest]
        found += [first + [((place[0], place[1] + network.watch()), t)] + rest, first + [(("zzz", place[1]), t)] + rest]
    return found


class SmallExclusionsTest(KeepsArguments, unittest.TestCase):
    def test_examples(self):
        network = first_network()
        value = exclusion(network, ("a", 0))
        self.assert_exactly([excludes(network, ("a", 0), value, ("a", 1)), excludes(network, ("a", 0), value, ("b", 10))],
                            [True, False])
        network = Network(4, 1, ["a"], [("g", "a", "a", (1, 2), [0])])
        tower = [[(1, 0)], [(1, 0), (1, 2)], [(1, 0)], [(1, 0)]]
        self.assert_exactly([is_accepted(network, ("a", 1), ([(("a", 0), (1, 0))], tower)), is_accepted(network, ("a", 1), ([], tower))],
                            [True, False])
        value = ([(("a", 0), (1, 0))], tower)
        self.assert_exactly([excludes(network, ("a", 1), value, ("a", 3)), excludes(network, ("a", 1), value, ("a", 0))],
                            [False, True])

    def test_by_name(self):
        network = first_network()
        value = exclusion(state=("a", 0), network=network)
        self.assertEqual(value, exclusion(network, ("a", 0)))
        self.assertIs(is_accepted(value=value, state=("a", 0), network=network), True)
        self.assertIs(excludes(other=("a", 1), value=value, state=("a", 0), network=network), True)

    def test_small_networks_by_search(self):
        for network in small_networks(11, 80):
            for state in some_states(network, 3):
                value = self.call(exclusion, network, state)
                self.assert_exactly(exclusion(network, state), value)
                self.assertEqual(kinds_of(value[0]), (list, [(tuple, [(tuple, [str, int]), (tuple, [int, int])])] * len(value[0])))
                self.assertIs(holds_exclusion(network, state, value), True)
                self.assertIs(self.call(is_accepted, network, state, value), True)
                reached = distances(network, state)
                for other in all_states(network):
                    self.assertIs(self.call(excludes, network, state, value, other), other not in reached)

    def test_exclusions_of_other_states(self):
        """An exclusion may be one of another state, too, and then excludes for it what can't be reached from there."""
        accepted = {False: 0, True: 0}
        for network in small_networks(12, 40):
            for state in some_states(network, 1):
                value = exclusion(network, state)
                for other in all_states(network)[::2]:
                    found = is_accepted(network, other, value)
                    self.assertIs(found, holds_exclusion(network, other, value))
                    accepted[found] += 1
                    if found:
                        self.assert_sound(network, other, value)
        self.assertGreater(min(accepted.values()), 50)

    def assert_sound(self, network, state, value):
        reached = distances(network, state)
        for other in all_states(network):
            found = excludes(network, state, value, other)
            self.assertIs(found, holds_excludes(network, state, value, other))
            self.assertFalse(found and other in reached, (state, value, other))

    def test_exclusions_by_another_hand(self):
        accepted = {False: 0, True: 0}
        for network in small_networks(13, 25):
            m = network.modulus()
            chosen = random.Random(m)
            for state in some_states(network, 1):
                entries, tower = exclusion(network, state)
                values = [(other, tower) for other in other_entries(network, entries, chosen)]
                some = other_towers(m, tower, chosen) + [with_other_maps(m, tower, chosen)]
                values += [(entries, other) for other in chosen.sample(some, min(60, len(some)))]
                values += [(entries, build_tower(m, state[1], [kind_of_map(m, chosen) for _ in range(3)])) for _ in range(4)]
                values += [(tower, entries), (entries,), (entries, tower, tower), [entries, tower], (entries, None), (None, tower)]
                for value in values:
                    found = self.call(is_accepted, network, state, value)
                    self.assertIs(found, holds_exclusion(network, state, value), (state, value))
                    accepted[found] += 1
                    if found:
                        self.assert_sound(network, state, value)
        self.assertGreater(accepted[True], 500)
        self.assertGreater(accepted[False], 2000)

    def test_entries_with_maps_of_other_paths(self):
        """Entries may have the map of any path to their class, and others if the tower is one of a greater group."""
        count = 0
        for network in small_networks(14, 40):
            m = network.modulus()
            chosen = random.Random(m)
            for state in some_states(network, 1):
                entries, tower = exclusion(network, state)
                members = [r for level in tower for r in level]
                fresh = [(place, t if t == (1, 0) else both(m, chosen.choice(members), t)) for place, t in entries]
                chosen.shuffle(fresh)
                whole = build_tower(m, state[1], all_maps(m))
                for value in ((fresh, tower), (entries, whole), (fresh, whole)):
                    self.assertIs(holds_exclusion(network, state, value), True)
                    self.assertIs(is_accepted(network, state, value), True)
                    self.assert_sound(network, state, value)
                count += fresh != entries
        self.assertGreater(count, 50)

    def test_entries_of_classes_of_other_parts(self):
        network = Network(12, 3, ["a", "b", "c"], [("e", "a", "a", (1, 6), [0, 1]), ("f", "b", "b", (1, 3), [2])])
        entries, tower = exclusion(network, ("a", 3))
        self.assertEqual(entries, [(("a", 0), (1, 0))])
        for place, f, fits in ((("a", 1), (5, 7), True), (("c", 0), (7, 1), True), (("b", 0), (1, 1), True), (("b", 2), (1, 0), False)):
            for value in ((entries + [(place, f)], tower), ([(place, f)] + entries, tower)):
                self.assertIs(is_accepted(network, ("a", 3), value), fits)
                self.assertIs(holds_exclusion(network, ("a", 3), value), fits)
        value = (entries + [(("c", 0), (7, 1))], tower)
        self.assertEqual([excludes(network, ("a", 3), value, ("c", x)) for x in (0, 3, 10)],
                         [holds_excludes(network, ("a", 3), value, ("c", x)) for x in (0, 3, 10)])

    def test_changed_at_any_depth(self):
        for network, state in ((first_network(), ("a", 9)), (Network(4, 2, ["a", "b"], [("g", "a", "b", (1, 2), [0])]), ("b", 2)),
                               (Network(2, 1, ["a"], []), ("a", 1))):
            value = exclusion(network, state)
            for other in variations(value):
                self.assertIs(self.call(is_accepted, network, state, other), holds_exclusion(network, state, other), other)

    def test_any_value(self):
        for network in (first_network(), Network(2, 1, ["a"], []), Network(36, 6, ["b"], [("g", "b", "b", (7, 6), [0, 5])])):
            state = (network.nodes()[0], network.modulus() - 1)
            entries, tower = exclusion(network, state)
            for value in any_values():
                for other in (value, (value, value), (entries, value), (value, tower), ([value], tower), (entries + [value], tower),
                              ([(value, (1, 0))], tower), (entries + [(value, (1, 0))], tower), (entries[:-1] + [(entries[-1][0], value)], tower),
                              (entries, tower[:-1] + [value]), (entries, tower[:-1] + [[value]]), [entries, tower]):
                    if not holds_exclusion(network, state, other):
                        self.assert_false_for(is_accepted, network, state, other)
                    else:
                        self.assertIs(is_accepted(network, state, other), True)
        network = large_networks()[0]
        entries, tower = exclusion(network, ("a", 0))
        for value in any_values():
            for other in (value, [entries, tower], (value, tower), (entries, value), (entries + [value], tower), (entries, tower + [value])):
                self.assert_false_for(is_accepted, network, ("a", 0), other)

    def test_changed_results_change_nothing(self):
        network = first_network()
        value = exclusion(network, ("a", 0))
        for _ in range(2):
            entries, tower = exclusion(network, ("a", 0))
            entries.clear()
            for level in tower:
                level.append(None)
            tower.pop()
        self.assert_exactly(exclusion(network, ("a", 0)), value)


class LargeExclusionsTest(KeepsArguments, unittest.TestCase):
    def test_networks_at_the_limits(self):
        for network in large_networks():
            m = network.modulus()
            chosen = random.Random(m + 7)
            for state in some_states(network, 1)[2:]:
                start = time.process_time()
                value = self.call(exclusion, network, state)
                self.assert_exactly(exclusion(network, state), value)
                self.assertIs(is_accepted(network, state, value), True)
                for other in walk(network, state, chosen, 25):
                    self.assertIs(excludes(network, state, value, other), False)
                self.assertLess(time.process_time() - start, 20)
                for _ in range(25):
                    other = (chosen.choice(network.nodes()), chosen.randrange(m))
                    self.assertIs(excludes(network, state, value, other), holds_excludes(network, state, value, other))

    def test_exclusions_by_another_hand(self):
        accepted = {False: 0, True: 0}
        for network in large_networks()[1::3]:
            m = network.modulus()
            chosen = random.Random(m + 9)
            state = (network.nodes()[0], chosen.randrange(m))
            entries, tower = exclusion(network, state)
            members = [r for level in tower for r in level]
            fresh = [(place, t if t == (1, 0) else both(m, chosen.choice(members), t)) for place, t in entries]
            chosen.shuffle(fresh)
            same = (fresh, with_other_maps(m, tower, chosen))
            self.assertIs(is_accepted(network, state, same), True)
            for other in walk(network, state, chosen, 20):
                self.assertIs(excludes(network, state, same, other), False)
            for _ in range(20):
                other = (chosen.choice(network.nodes()), chosen.randrange(m))
                self.assertIs(excludes(network, state, same, other), excludes(network, state, (entries, tower), other))
            # With a valid tower only the entries have to be read literally, which is quick.
            for other in chosen.sample(other_entries(network, fresh[:60], chosen), 40):
                if type(other) is not list:
                    self.assert_false_for(is_accepted, network, state, (other, tower))
                    continue
                value = (other + fresh[60:], tower)
                found = is_accepted(network, state, value)
                accepted[found] += 1
                self.assertIs(found, holds_entries(network, state, value))
        self.assertGreater(min(accepted.values()), 5)

    def test_a_group_that_is_too_small_is_not_accepted(self):
        for network in large_networks():
            m = network.modulus()
            state = (network.nodes()[-1], m - 1)
            entries, tower = exclusion(network, state)
            for i in [i for i, level in enumerate(tower) if len(level) > 1][::5]:
                less = tower[:i] + [[(1, 0)]] + tower[i + 1:]
                self.assertIs(is_accepted(network, state, (entries, less)), False)
            more = build_tower(m, state[1], [random_map(m, random.Random(m))] + [r for level in tower for r in level])
            self.assertIs(is_accepted(network, state, (entries, more)), True)

    def test_maps_that_do_not_sift_into_the_group(self):
        network = Network(10 ** 9, 2, ["a", "b"], [("e", "a", "b", (3, 1), [0]), ("f", "b", "a", (7, 1), [1]), ("g", "a", "b", (1, 1), [1])])
        state = ("a", 10 ** 9 - 2)
        entries, tower = exclusion(network, state)
        for k, (place, t) in enumerate(entries):
            for f in ((1, 1), (1, 2), (-1 % 10 ** 9, 0), (3, 0)):
                value = (entries[:k] + [(place, both(10 ** 9, t, f))] + entries[k + 1:], tower)
                self.assertIs(is_accepted(network, state, value), holds_entries(network, state, value))
        self.assertIs(holds_closed(10 ** 9, state[1], tower), True)
        self.assertEqual(back(10 ** 9, (3, 1))[0] * 3 % 10 ** 9, 1)


if __name__ == "__main__":
    unittest.main()
