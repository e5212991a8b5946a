import random
import time
import unittest

from affinewalk.arithmetic import chain
from affinewalk.classes import loops, part, same_part
from affinewalk.counts import (count_at, count_reachable, digits, home_order, index_at, reachable_at, separating_divisor)
from affinewalk.errors import OutOfRange
from affinewalk.exclusions import excludes, exclusion
from affinewalk.networks import Network
from affinewalk.paths import path_map
from affinewalk.reach import can_reach, reach
from affinewalk.towers import group_order
from tests.literal import all_states, digit_list, distances, divisor_chain, home_group, large_networks, small_networks
from tests.support import LARGE_MODULI, SMALL_MODULI, KeepsArguments, any_values, first_network
from tests.test_exclusions import some_states, walk


class CountsTest(KeepsArguments, unittest.TestCase):
    def assert_out_of_range(self, network, state, node, value):
        with self.assertRaises(OutOfRange, msg=value) as caught:
            self.call(reachable_at, network, state, node, value)
        self.assert_exactly(caught.exception.value, value)

    def test_examples(self):
        network = first_network()
        self.assert_exactly([home_order(network, ("a", 0)), count_reachable(network, ("a", 0)), count_at(network, ("a", 0), "a")],
                            [4, 12, 8])
        self.assert_exactly([reachable_at(network, ("a", 0), "a", 3), reachable_at(network, ("a", 0), "a", 4)], [6, 5])
        self.assert_out_of_range(network, ("a", 0), "a", 8)
        self.assert_exactly([index_at(network, ("a", 0), ("a", 11)), index_at(network, ("a", 0), ("a", 1))], [7, None])
        network = Network(12, 1, ["a"], [("g", "a", "a", (1, 4), [0])])
        found = [separating_divisor(network, ("a", 0), ("a", y)) for y in (3, 2, 8)]
        self.assert_exactly(found, [2, 4, None])

    def test_by_name(self):
        network = first_network()
        self.assertEqual(digits(x=7, m=12), [1, 1, 1])
        self.assertEqual(home_order(state=("a", 0), network=network), 4)
        self.assertEqual(count_reachable(state=("a", 0), network=network), 12)
        self.assertEqual(count_at(node="a", state=("a", 0), network=network), 8)
        self.assertEqual(reachable_at(index=3, node="a", state=("a", 0), network=network), 6)
        self.assertEqual(index_at(other=("a", 11), state=("a", 0), network=network), 7)
        self.assertEqual(separating_divisor(other=("a", 1), state=("a", 0), network=network),
                         separating_divisor(network, ("a", 0), ("a", 1)))

    def test_digits(self):
        for m in SMALL_MODULI + LARGE_MODULI:
            chosen = random.Random(m)
            for x in {0, 1, m - 1, m // 2} | {chosen.randrange(m) for _ in range(30)}:
                found = self.call(digits, m, x)
                self.assert_exactly(found, digit_list(m, x))
                self.assertEqual(sum(digit * d for digit, d in zip(found, chain(m))), x)
        self.assert_exactly(digits(12, 7), [1, 1, 1])
        self.assert_exactly(digits(2, 1), [1])

    def test_small_networks_by_search(self):
        for network in small_networks(31, 80):
            m = network.modulus()
            for state in some_states(network, 2):
                reached = distances(network, state)
                self.assert_exactly(self.call(count_reachable, network, state), len(reached))
                self.assert_exactly(self.call(home_order, network, state), len(home_group(network, state)))
                for node in network.nodes():
                    numbers = sorted([x for name, x in reached if name == node], key=lambda x: digit_list(m, x))
                    self.assert_exactly(self.call(count_at, network, state, node), len(numbers))
                    self.assert_exactly([self.call(reachable_at, network, state, node, k) for k in range(len(numbers))], numbers)
                    for value in (len(numbers), -1, len(numbers) + 1, 10 ** 30):
                        self.assert_out_of_range(network, state, node, value)
                    for x in range(m):
                        wanted = numbers.index(x) if x in numbers else None
                        self.assert_exactly(self.call(index_at, network, state, (node, x)), wanted)

    def test_separating_divisors_by_search(self):
        kinds = set()
        for network in small_networks(32, 80):
            m = network.modulus()
            for state in some_states(network, 2):
                reached = distances(network, state)
                for node, y in all_states(network):
                    numbers = [x for name, x in reached if name == node]
                    fits = [d for d in divisor_chain(m) if all((x - y) % d != 0 for x in numbers)]
                    wanted = fits[0] if fits else None
                    self.assert_exactly(self.call(separating_divisor, network, state, (node, y)), wanted)
                    kinds.add(wanted)
        self.assertGreater(len(kinds), 8)

    def test_any_value_as_index(self):
        for network in (first_network(), large_networks()[0]):
            state = (network.nodes()[0], 0)
            many = count_at(network, state, state[0])
            for value in any_values() + [many, many + 1, -many]:
                if type(value) is int and 0 <= value < many:
                    self.assertEqual(index_at(network, state, (state[0], reachable_at(network, state, state[0], value))), value)
                else:
                    self.assert_out_of_range(network, state, state[0], value)
        network = Network(12, 3, ["a", "b"], [])
        for value in any_values():
            self.assert_out_of_range(network, ("a", 0), "b", value)
            if value != 0 or type(value) is not int:
                self.assert_out_of_range(network, ("a", 0), "a", value)
        self.assert_exactly(reachable_at(network, ("a", 11), "a", 0), 11)

    def test_networks_at_the_limits(self):
        for network in large_networks()[::3] + large_networks()[-1:]:
            m = network.modulus()
            chosen = random.Random(m + 17)
            for state in some_states(network, 1)[-1:]:
                start = time.process_time()
                total = 0
                for node in network.nodes():
                    many = self.call(count_at, network, state, node)
                    total += many
                    self.assert_out_of_range(network, state, node, many)
                    self.assert_out_of_range(network, state, node, -1)
                    if many == 0:
                        self.assertEqual(separating_divisor(network, state, (node, chosen.randrange(m))), 1)
                        continue
                    found = []
                    for index in sorted({0, many - 1, chosen.randrange(many)}):
                        x = self.call(reachable_at, network, state, node, index)
                        found.append(digit_list(m, x))
                        self.assert_exactly(index_at(network, state, (node, x)), index)
                        self.assertIs(can_reach(network, state, (node, x)), True)
                        self.assertIsNone(separating_divisor(network, state, (node, x)))
                    self.assertEqual(found, sorted(found))
                self.assert_exactly(self.call(count_reachable, network, state), total)
                self.assertLess(time.process_time() - start, 30)
                self.assertEqual(home_order(network, state), group_order(m, [path_map(network, state, path) for path in loops(network, state)]))

    def test_neighbours_in_chain_order(self):
        for network in large_networks()[::4]:
            m = network.modulus()
            chosen = random.Random(m + 19)
            state = (network.nodes()[0], chosen.randrange(m))
            many = count_at(network, state, state[0])
            start = chosen.randrange(many)
            found = [reachable_at(network, state, state[0], k) for k in range(start, min(many, start + 25))]
            orders = [digit_list(m, x) for x in found]
            self.assertEqual(orders, sorted(orders))
            self.assertEqual(len(set(found)), len(found))

    def test_states_that_cannot_be_reached(self):
        """The separating divisor separates, and the divisor before it does not."""
        count = 0
        for network in large_networks():
            m = network.modulus()
            chosen = random.Random(m + 23)
            state = (network.nodes()[0], m - 1)
            value = exclusion(network, state)
            for _ in range(8):
                node = chosen.choice(network.nodes())
                y = chosen.randrange(m)
                d = self.call(separating_divisor, network, state, (node, y))
                self.assertEqual(d is not None, excludes(network, state, value, (node, y)))
                self.assertEqual(d is not None, index_at(network, state, (node, y)) is None)
                self.assertEqual(d is None, reach(network, state, (node, y)) is not None)
                if d is None or d == 1:
                    continue
                before = chain(m)[chain(m).index(d) - 1]
                # Whatever is congruent to y modulo d cannot be reached, but something congruent modulo the one before.
                for _ in range(2):
                    z = (y + d * chosen.randrange(m // d)) % m
                    self.assertEqual(separating_divisor(network, state, (node, z)), d)
                self.assertTrue(self.some_is_reached(network, state, node, y, before))
                count += 1
        self.assertGreater(count, 30)

    def some_is_reached(self, network, state, node, y, divisor):
        """Whether a number congruent to y can be reached: in chain order these stand side by side."""
        low, high = 0, count_at(network, state, node)
        m = network.modulus()
        place = digit_list(m, y % divisor)
        while low < high:
            middle = (low + high) // 2
            if digit_list(m, reachable_at(network, state, node, middle)) < place:
                low = middle + 1
            else:
                high = middle
        return low < count_at(network, state, node) and (reachable_at(network, state, node, low) - y) % divisor == 0

    def test_one_node_without_edges(self):
        for m in (2, 12, 10 ** 9):
            for watch in [d for d in (1, 2, 50) if m % d == 0]:
                network = Network(m, watch, ["a", "b"], [])
                for x in (0, 1, m - 1):
                    self.assertEqual([home_order(network, ("a", x)), count_reachable(network, ("a", x)), count_at(network, ("a", x), "a"),
                                      count_at(network, ("a", x), "b"), index_at(network, ("a", x), ("a", x)),
                                      reachable_at(network, ("a", x), "a", 0)], [1, 1, 1, 0, 0, x])
                    self.assertEqual(separating_divisor(network, ("a", x), ("a", (x + m // 2) % m)), self.first_divisor(m, m // 2))
                    self.assertEqual(separating_divisor(network, ("a", x), ("b", x)), 1)
                    self.assertIsNone(separating_divisor(network, ("a", x), ("a", x)))

    def first_divisor(self, m, difference):
        return [d for d in chain(m) if difference % d != 0][0]

    def test_counts_of_parts_add_up(self):
        for network in small_networks(33, 30):
            left = all_states(network)
            while left:
                state = left[0]
                here = [other for other in left if index_at(network, state, other) is not None]
                self.assertEqual(len(here), count_reachable(network, state))
                self.assertTrue(all(same_part(network, state, other) for other in here))
                self.assertEqual({(node, x % network.watch()) for node, x in here}, set(part(network, state)))
                left = [other for other in left if other not in here]

    def test_counts_are_equal_at_both_ends(self):
        for network in large_networks()[1::3]:
            chosen = random.Random(network.modulus())
            state = (network.nodes()[-1], 7)
            for other in walk(network, state, chosen, 9)[::3]:
                self.assertEqual(count_reachable(network, other), count_reachable(network, state))
                self.assertEqual(home_order(network, other), home_order(network, state))
                for node in network.nodes():
                    self.assertEqual(count_at(network, other, node), count_at(network, state, node))
                self.assertEqual(index_at(network, other, state), index_at(network, state, state))

    def test_changed_results_change_nothing(self):
        digits(12, 7).clear()
        self.assertEqual(digits(12, 7), [1, 1, 1])


if __name__ == "__main__":
    unittest.main()
