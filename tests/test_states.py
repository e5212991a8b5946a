import unittest

from affinewalk.networks import Network
from affinewalk.states import class_of, is_class, is_state
from tests.support import KeepsArguments, Number, Row, Text, any_values, first_network, kinds_of, random_parts


class StatesTest(KeepsArguments, unittest.TestCase):
    def setUp(self):
        self.network = first_network()

    def test_ordinary_values(self):
        for node in ("a", "b"):
            for x in range(-3, 15):
                self.assertIs(self.call(is_state, self.network, (node, x)), 0 <= x < 12)
                self.assertIs(self.call(is_class, self.network, (node, x)), 0 <= x < 3)
        for node in ("c", "e", "g", "ab", "A", ""):
            self.assert_false_for(is_state, self.network, (node, 0))
            self.assert_false_for(is_class, self.network, (node, 0))

    def test_edges(self):
        for m, watch in ((2, 1), (2, 2), (60, 60), (10 ** 9, 50), (998400000, 60)):
            network = Network(m, watch, ["when", "zzzzzzzz"], [])
            for node in ("when", "zzzzzzzz"):
                self.assertIs(is_state(network, (node, 0)), True)
                self.assertIs(is_state(network, (node, m - 1)), True)
                self.assertIs(is_class(network, (node, 0)), True)
                self.assertIs(is_class(network, (node, watch - 1)), True)
                for x in (-1, -m, m, m + 1, 10 ** 99):
                    self.assert_false_for(is_state, network, (node, x))
                for x in (-1, -watch, watch, watch + 1, 10 ** 99):
                    self.assert_false_for(is_class, network, (node, x))
                self.assert_exactly(class_of(network, (node, m - 1)), (node, watch - 1))
                self.assert_exactly(class_of(network, (node, 0)), (node, 0))

    def test_any_value(self):
        values = any_values() + [["a", 0], ("a",), ("a", 0, 0), ("a", 0.0), (b"a", 0), ({"a"}, 0), {"a": 0}, "a0", self.network]
        for value in values:
            self.assertIs(is_state(self.network, value), False, value)
            self.assertIs(is_class(self.network, value), False, value)

    def test_any_value_is_not_modified(self):
        for value in any_values():
            self.call(is_state, self.network, value)
            self.call(is_class, self.network, value)

    def test_class_of_by_counting(self):
        for seed in range(40):
            m, watch, nodes, edges = random_parts(seed)
            network = Network(m, watch, nodes, edges)
            for node in nodes:
                for x in list(range(min(m, 70))) + [m - 1, m // 2]:
                    found = self.call(class_of, network, (node, x))
                    self.assertEqual(found, (node, x - watch * (x // watch)))
                    self.assertEqual(kinds_of(found), kinds_of(("a", 0)))
                    self.assertTrue(is_class(network, found))

    def test_classes_are_of_exactly_the_plain_kinds(self):
        self.assert_exactly(class_of(self.network, Row((Text("b"), Number(11)))), ("b", 2))

    def test_network_is_not_modified(self):
        is_state(self.network, ("a", 0))
        is_class(self.network, ("a", 0))
        class_of(self.network, ("a", 5))
        self.assertTrue(self.network == first_network())

    def test_by_name(self):
        self.assertIs(is_state(value=("a", 11), network=self.network), True)
        self.assertIs(is_class(value=("a", 2), network=self.network), True)
        self.assertEqual(class_of(state=("a", 11), network=self.network), ("a", 2))
