import random
import unittest
from copy import deepcopy

from affinewalk.errors import UnknownName
from affinewalk.networks import Network
from tests.support import KeepsArguments, Number, Row, Text, any_values, first_network, largest_parts, random_parts


def in_order(edges):
    return sorted([(name, source, target, f, tuple(sorted(rest))) for name, source, target, f, rest in edges])


class NetworkTest(KeepsArguments, unittest.TestCase):
    def test_example(self):
        network = Network(12, 3, ["b", "a"], [("g", "b", "a", (7, 0), [1]), ("e", "a", "b", (5, 1), [2, 0])])
        self.assert_exactly(network.nodes(), ["a", "b"])
        self.assert_exactly(network.edges(), [("e", "a", "b", (5, 1), (0, 2)), ("g", "b", "a", (7, 0), (1,))])

    def test_by_name(self):
        network = Network(edges=[("e", "a", "a", (5, 1), [2])], nodes=["a"], watch=3, modulus=12)
        self.assert_exactly(network.edge(name="e"), ("a", "a", (5, 1), (2,)))
        self.assert_exactly((network.modulus(), network.watch()), (12, 3))

    def assert_parts(self, parts):
        m, watch, nodes, edges = parts
        network = self.call(Network, m, watch, nodes, edges)
        self.assert_exactly(network.modulus(), m)
        self.assert_exactly(network.watch(), watch)
        self.assert_exactly(network.nodes(), sorted(nodes))
        self.assert_exactly(network.edges(), in_order(edges))
        for edge in in_order(edges):
            self.assert_exactly(network.edge(edge[0]), edge[1:])

    def test_returns_what_it_was_built_from(self):
        for seed in range(150):
            self.assert_parts(random_parts(seed))
        self.assert_parts(largest_parts())
        self.assert_parts((2, 1, ["a"], []))
        self.assert_parts((12, 12, ["a"], [("b", "a", "a", (1, 0), [])]))

    def test_any_order_and_lists_or_tuples(self):
        for seed in range(60):
            m, watch, nodes, edges = random_parts(seed)
            chosen = random.Random(seed)
            other_edges = [(*edge[:4], tuple(chosen.sample(edge[4], len(edge[4])))) for edge in edges]
            other_edges = tuple(chosen.sample(other_edges, len(edges)))
            other = Network(m, watch, tuple(chosen.sample(nodes, len(nodes))), other_edges)
            network = Network(m, watch, nodes, edges)
            self.assertIs(network == other, True)
            self.assertIs(network != other, False)
            self.assert_exactly(other.nodes(), network.nodes())
            self.assert_exactly(other.edges(), network.edges())

    def test_returned_values_are_of_exactly_the_plain_kinds(self):
        f = Row((Number(5), Number(1)))
        edge = Row((Text("e"), Text("a"), Text("b"), f, Row((Number(2), Number(0)))))
        network = Network(Number(12), Number(3), Row((Text("b"), Text("a"))), Row((edge,)))
        self.assert_exactly([network.modulus(), network.watch()], [12, 3])
        self.assert_exactly(network.nodes(), ["a", "b"])
        self.assert_exactly(network.edges(), [("e", "a", "b", (5, 1), (0, 2))])
        self.assert_exactly(network.edge(Text("e")), ("a", "b", (5, 1), (0, 2)))

    def test_names_in_ascending_order(self):
        names = ["ab", "b", "a", "abc", "aa", "ba", "zzzzzzzz", "z"]
        network = Network(12, 1, names, [])
        self.assertEqual(network.nodes(), ["a", "aa", "ab", "abc", "b", "ba", "z", "zzzzzzzz"])
        network = Network(12, 1, ["q"], [(name, "q", "q", (1, 0), []) for name in names])
        self.assertEqual([edge[0] for edge in network.edges()], ["a", "aa", "ab", "abc", "b", "ba", "z", "zzzzzzzz"])

    def test_changed_arguments_change_nothing(self):
        residues = [2, 0]
        nodes = ["b", "a"]
        edges = [("e", "a", "b", (5, 1), residues)]
        network = Network(12, 3, nodes, edges)
        wanted = deepcopy((network.nodes(), network.edges(), network.edge("e")))
        residues.append(1)
        nodes.append("c")
        nodes[0] = "d"
        edges.append(("f", "a", "b", (5, 1), [0]))
        self.assertEqual((network.nodes(), network.edges(), network.edge("e")), wanted)
        edges.clear()
        self.assertEqual((network.nodes(), network.edges(), network.edge("e")), wanted)
        self.assertTrue(network == Network(12, 3, ["a", "b"], [("e", "a", "b", (5, 1), [0, 2])]))

    def test_changed_returned_lists_change_nothing(self):
        network = first_network()
        network.nodes().append("c")
        network.nodes().clear()
        network.edges().clear()
        network.edges()[0] = None
        self.assertEqual(network.nodes(), ["a", "b"])
        self.assertEqual([edge[0] for edge in network.edges()], ["e", "f", "g"])
        self.assertTrue(network == first_network())

    def test_unknown_names(self):
        network = Network(12, 3, ["a", "node"], [("e", "a", "node", (5, 1), [2, 0]), ("ee", "a", "a", (5, 1), [])])
        values = any_values() + ["node", "E", "eee", "e ", "f", ["e"], ("e",), {"e": 1}, {"e"}, b"e", 0, network]
        for value in values:
            with self.assertRaises(UnknownName, msg=value) as caught:
                network.edge(value)
            self.assertIs(caught.exception.name, value)
        self.assertEqual(network.edge("e"), ("a", "node", (5, 1), (0, 2)))

    def test_has_edge(self):
        network = Network(12, 3, ["a", "node"], [("e", "a", "node", (5, 1), [2, 0]), ("ee", "a", "a", (5, 1), [])])
        self.assertIs(network.has_edge("e"), True)
        self.assertIs(network.has_edge(name="ee"), True)
        for value in any_values() + ["node", "E", "eee", "e ", ["e"], ("e",), {"e": 1}]:
            self.assert_false_for(network.has_edge, value)

    def test_unknown_names_without_edges(self):
        for value in any_values():
            self.assertRaises(UnknownName, Network(12, 3, ["a"], []).edge, value)


class EqualityTest(unittest.TestCase):
    def assert_different(self, one, other):
        for left, right in ((one, other), (other, one)):
            self.assertIs(left == right, False)
            self.assertIs(left != right, True)

    def test_equal(self):
        for seed in range(60):
            one, other = Network(*random_parts(seed)), Network(*random_parts(seed))
            self.assertIs(one == other, True)
            self.assertIs(other != one, False)
            self.assertIs(one == one, True)
            self.assertIs(one != one, False)

    def test_one_part_differs(self):
        edges = [("e", "a", "b", (5, 1), [0, 2]), ("g", "b", "b", (1, 3), [])]
        network = Network(12, 3, ["a", "b", "c"], edges)
        rest = edges[1:]
        others = [
            Network(24, 3, ["a", "b", "c"], edges),
            Network(12, 4, ["a", "b", "c"], edges),
            Network(12, 3, ["a", "b", "d"], edges),
            Network(12, 3, ["a", "b"], edges),
            Network(12, 3, ["a", "b", "c", "d"], edges),
            Network(12, 3, ["a", "b", "c"], rest),
            Network(12, 3, ["a", "b", "c"], []),
            Network(12, 3, ["a", "b", "c"], edges + [("h", "a", "b", (5, 1), [0, 2])]),
            Network(12, 3, ["a", "b", "c"], [("f", "a", "b", (5, 1), [0, 2])] + rest),
            Network(12, 3, ["a", "b", "c"], [("e", "c", "b", (5, 1), [0, 2])] + rest),
            Network(12, 3, ["a", "b", "c"], [("e", "a", "c", (5, 1), [0, 2])] + rest),
            Network(12, 3, ["a", "b", "c"], [("e", "b", "a", (5, 1), [0, 2])] + rest),
            Network(12, 3, ["a", "b", "c"], [("e", "a", "b", (7, 1), [0, 2])] + rest),
            Network(12, 3, ["a", "b", "c"], [("e", "a", "b", (5, 2), [0, 2])] + rest),
            Network(12, 3, ["a", "b", "c"], [("e", "a", "b", (5, 1), [0])] + rest),
            Network(12, 3, ["a", "b", "c"], [("e", "a", "b", (5, 1), [0, 1])] + rest),
            Network(12, 3, ["a", "b", "c"], [("e", "a", "b", (5, 1), [0, 1, 2])] + rest),
            Network(12, 3, ["a", "b", "c"], [("e", "a", "b", (5, 1), [])] + rest),
            Network(12, 3, ["a", "b", "c"], edges[:1] + [("g", "b", "b", (1, 3), [0])]),
        ]
        for k, other in enumerate(others):
            self.assert_different(network, other)
            for another in others[:k]:
                self.assert_different(another, other)

    def test_no_value_of_another_kind(self):
        network = Network(12, 3, ["a"], [])
        others = any_values() + [(12, 3, ["a"], []), [12, 3, ["a"], []], "modulus 12\nwatch 3\nnode a", object(), 12, Network]
        for value in others:
            self.assert_different(network, value)
