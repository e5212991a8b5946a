import random
import unittest

from affinewalk.counts import count_at, count_reachable, home_order
from affinewalk.edits import (change_map, change_residues, relabel, remove_edge, rename, reverse_edge, subdivide, unite)
from affinewalk.errors import UnknownName
from affinewalk.maps import apply_map, compose, inverse
from affinewalk.network_notation import format_network, parse_network
from affinewalk.networks import Network
from affinewalk.reach import can_reach
from tests.literal import all_states, back, both, distances, image, kind_of_map, large_networks, random_map, small_networks
from tests.support import KeepsArguments, any_values, kinds_of
from tests.test_exclusions import some_states


def edits_network():
    return Network(12, 3, ["a", "b"], [("e", "a", "b", (5, 7), [0, 2]), ("g", "b", "b", (1, 3), [0, 1, 2])])


class EditsTest(KeepsArguments, unittest.TestCase):
    def assert_unknown(self, value, function, *arguments, **more):
        with self.assertRaises(UnknownName, msg=value) as caught:
            function(*arguments, **more)
        self.assert_exactly(caught.exception.name, value)

    def edit(self, function, network, *arguments):
        """The edited network, of which all is as it was but what the edit changes."""
        text = format_network(network)
        found = self.call(function, network, *arguments)
        self.assertIs(type(found), Network)
        self.assertEqual(format_network(network), text)
        self.assertEqual((found.modulus(), found.watch()), (network.modulus(), network.watch()))
        self.assertEqual(kinds_of(found.edges()), (list, [(tuple, [str, str, str, (tuple, [int, int]), (tuple, [int] * len(edge[4]))])
                                                          for edge in found.edges()]))
        self.assertTrue(function(network, *arguments) == found)
        if len(found.nodes()) <= 8 and len(found.edges()) <= 24:
            self.assertTrue(parse_network(format_network(found)) == found)
        return found

    def test_examples(self):
        network = edits_network()
        self.assert_exactly(remove_edge(network, "e").edges(), [("g", "b", "b", (1, 3), (0, 1, 2))])
        self.assert_exactly(subdivide(network, "e", "c", "h", (1, 4)).edge("h"), ("c", "b", (5, 11), (0, 1)))
        self.assert_exactly(rename(network, {"a": "start", "e": "go"}).edges(),
                            [("g", "b", "b", (1, 3), (0, 1, 2)), ("go", "start", "b", (5, 7), (0, 2))])
        self.assert_unknown("c", rename, network, {"c": "d"})
        self.assert_exactly(relabel(network, (1, 1)).edge("e"), ("a", "b", (5, 3), (0, 1)))
        self.assert_exactly(unite(network, Network(12, 3, ["c"], []), ("k", "c", "a", (1, 0), [0])).nodes(), ["a", "b", "c"])

    def test_by_name(self):
        network = edits_network()
        self.assertTrue(remove_edge(name="e", network=network) == remove_edge(network, "e"))
        self.assertTrue(change_residues(residues=[1], name="e", network=network) == change_residues(network, "e", [1]))
        self.assertTrue(change_map(f=(7, 1), name="e", network=network) == change_map(network, "e", (7, 1)))
        self.assertTrue(reverse_edge(name="e", network=network) == reverse_edge(network, "e"))
        self.assertTrue(subdivide(u=(1, 4), new_name="h", node="c", name="e", network=network)
                        == subdivide(network, "e", "c", "h", (1, 4)))
        self.assertTrue(rename(names={"a": "z"}, network=network) == rename(network, {"a": "z"}))
        self.assertTrue(relabel(u=(1, 1), network=network) == relabel(network, (1, 1)))
        other = Network(12, 3, ["c"], [])
        self.assertTrue(unite(edge=("k", "c", "a", (1, 0), [0]), other=other, one=network)
                        == unite(network, other, ("k", "c", "a", (1, 0), [0])))

    def test_exactly_what_the_document_says(self):
        for network in small_networks(41, 60) + large_networks():
            m, watch = network.modulus(), network.watch()
            chosen = random.Random(m)
            edges = {edge[0]: edge[1:] for edge in network.edges()}
            for name, (source, target, f, residues) in list(edges.items())[:6]:
                others = [edge for edge in network.edges() if edge[0] != name]
                nodes = network.nodes()
                u = random_map(m, chosen)
                fresh = chosen.sample(range(watch), chosen.randint(0, watch))

                def wanted(*parts):
                    return Network(m, watch, nodes, others + [(name, *parts)])

                self.assertTrue(self.edit(remove_edge, network, name) == Network(m, watch, nodes, others))
                self.assertTrue(self.edit(change_residues, network, name, fresh) == wanted(source, target, f, fresh))
                self.assertTrue(self.edit(change_residues, network, name, tuple(fresh)) == wanted(source, target, f, fresh))
                self.assertTrue(self.edit(change_residues, network, name, []) == wanted(source, target, f, []))
                self.assertTrue(self.edit(change_map, network, name, u) == wanted(source, target, u, residues))
                moved = [image(m, f, r) % watch for r in residues]
                self.assertTrue(self.edit(reverse_edge, network, name) == wanted(target, source, back(m, f), moved))
                half = ("newedge", "newnode", target, both(m, back(m, u), f), [image(m, u, r) % watch for r in residues])
                parts = Network(m, watch, nodes + ["newnode"], others + [(name, source, "newnode", u, residues), half])
                self.assertTrue(self.edit(subdivide, network, name, "newnode", "newedge", u) == parts)
            u = random_map(m, chosen)
            relabelled = [(name, source, target, both(m, both(m, back(m, u), f), u), [image(m, u, r) % watch for r in residues])
                          for name, (source, target, f, residues) in edges.items()]
            self.assertTrue(self.edit(relabel, network, u) == Network(m, watch, network.nodes(), relabelled))
            names = {name: name + "x" for name in chosen.sample(network.nodes() + list(edges), 1 + len(edges) // 2)}
            renamed = [(names.get(name, name), names.get(source, source), names.get(target, target), f, residues)
                       for name, (source, target, f, residues) in edges.items()]
            nodes = [names.get(node, node) for node in network.nodes()]
            self.assertTrue(self.edit(rename, network, names) == Network(m, watch, nodes, renamed))

    def test_edits_that_give_back_the_first_network(self):
        for network in small_networks(42, 40) + large_networks():
            m = network.modulus()
            u = random_map(m, random.Random(m))
            self.assertTrue(relabel(relabel(network, u), inverse(m, u)) == network)
            self.assertTrue(relabel(network, (1, 0)) == network)
            self.assertTrue(rename(network, {}) == network)
            self.assertIsNot(rename(network, {}), network)
            for name, source, target, f, residues in network.edges()[:5]:
                self.assertTrue(reverse_edge(reverse_edge(network, name), name) == network)
                self.assertTrue(change_map(change_map(network, name, (1, 0)), name, f) == network)
                self.assertTrue(change_residues(change_residues(network, name, []), name, residues) == network)
                self.assertTrue(rename(rename(network, {name: "zz"}), {"zz": name}) == network)

    def test_names_that_change_places(self):
        network = edits_network()
        swapped = rename(network, {"a": "b", "b": "a", "e": "g", "g": "e"})
        self.assert_exactly(swapped.edges(), [("e", "a", "a", (1, 3), (0, 1, 2)), ("g", "b", "a", (5, 7), (0, 2))])
        mixed = rename(network, {"a": "e", "e": "a"})
        self.assert_exactly([mixed.nodes(), mixed.edge("a")], [["b", "e"], ("e", "b", (5, 7), (0, 2))])
        self.assertTrue(rename(network, {"a": "a"}) == network)

    def test_states_that_can_be_reached_after_edits(self):
        for network in small_networks(43, 50):
            m, watch = network.modulus(), network.watch()
            chosen = random.Random(m + 1)
            for state in some_states(network, 1)[-2:]:
                before = set(distances(network, state))
                u = kind_of_map(m, chosen)
                names = {name: name + "x" for name in network.nodes()}
                for other, wanted in ((relabel(network, u), {(node, image(m, u, x)) for node, x in before}),
                                      (rename(network, names), {(node + "x", x) for node, x in before})):
                    start = (state[0], image(m, u, state[1])) if other.nodes() == network.nodes() else (state[0] + "x", state[1])
                    self.assert_reaches(other, start, wanted)
                for name in [edge[0] for edge in network.edges()]:
                    self.assert_reaches(reverse_edge(network, name), state, before)
                    halves = subdivide(network, name, "new", "newer", u)
                    self.assertEqual({other for other in distances(halves, state) if other[0] != "new"}, before)
                    self.assertEqual({other for other in all_states(network) if can_reach(halves, state, other)}, before)
                    left = set(distances(remove_edge(network, name), state))
                    self.assertLessEqual(left, before)
                    self.assert_reaches(remove_edge(network, name), state, left)
                    self.assert_reaches(change_residues(network, name, []), state, left)
                    more = change_residues(network, name, range_list(watch))
                    self.assertGreaterEqual(set(distances(more, state)), before)
                    self.assert_reaches(more, state, set(distances(more, state)))
                    changed = change_map(network, name, u)
                    self.assert_reaches(changed, state, set(distances(changed, state)))

    def assert_reaches(self, network, state, wanted):
        self.assertEqual(count_reachable(network, state), len(wanted))
        for other in all_states(network)[::2]:
            self.assertIs(can_reach(network, state, other), other in wanted)

    def test_united_networks(self):
        for one in small_networks(44, 30):
            m, watch = one.modulus(), one.watch()
            chosen = random.Random(m + 2)
            names = {name: name + "q" for name in one.nodes() + [edge[0] for edge in one.edges()]}
            other = rename(one, names)
            for first, second in ((one, other), (other, one)):
                for source, target in ((one.nodes()[0], other.nodes()[-1]), (other.nodes()[0], one.nodes()[0])):
                    residues = chosen.sample(range(watch), chosen.randint(0, watch))
                    edge = ("new", source, target, kind_of_map(m, chosen), residues)
                    found = self.call(unite, first, second, edge)
                    self.assertTrue(found == Network(m, watch, one.nodes() + other.nodes(), one.edges() + other.edges() + [edge]))
                    self.assertTrue(unite(first, second, (*edge[:4], tuple(residues[::-1]))) == found)
                    state = (source, chosen.randrange(m))
                    self.assert_reaches(found, state, set(distances(found, state)))
                    apart = remove_edge(found, "new")
                    self.assertEqual(count_reachable(apart, state), count_reachable(one if source in one.nodes() else other, state))

    def test_large_networks_after_edits(self):
        for network in large_networks()[::3] + large_networks()[-2:]:
            m = network.modulus()
            chosen = random.Random(m + 3)
            state = (network.nodes()[0], chosen.randrange(m))
            u = random_map(m, chosen)
            other = relabel(network, u)
            start = (state[0], apply_map(m, u, state[1]))
            self.assertEqual(count_reachable(other, start), count_reachable(network, state))
            self.assertEqual(home_order(other, start), home_order(network, state))
            name = chosen.choice(network.edges())[0]
            turned = reverse_edge(network, name)
            halves = subdivide(network, name, "newnode", "newedge", u)
            renamed = rename(network, {state[0]: "zzzz"})
            for node in network.nodes():
                many = count_at(network, state, node)
                self.assertEqual([count_at(turned, state, node), count_at(halves, state, node),
                                  count_at(renamed, ("zzzz", state[1]), "zzzz" if node == state[0] else node)], [many] * 3)
                self.assertLessEqual(count_at(remove_edge(network, name), state, node), many)
                z = (node, chosen.randrange(m))
                self.assertEqual(can_reach(other, start, (node, apply_map(m, u, z[1]))), can_reach(network, state, z))

    def test_unknown_names(self):
        network = edits_network()
        for value in any_values() + ["a", "b", "zz", ("e",), ["e"], {"e": "g"}, "eg", " e"]:
            for function, more in ((remove_edge, ()), (change_residues, ([0],)), (change_map, ((1, 0),)), (reverse_edge, ()),
                                   (subdivide, ("c", "h", (1, 0)))):
                self.assert_unknown(value, function, network, value, *more)
        self.assertTrue(network == edits_network())

    def test_first_unknown_key(self):
        network = edits_network()
        self.assert_unknown("y", rename, network, {"a": "z", "y": "c", "x": "d", "e": "f"})
        self.assert_unknown("x", rename, network, {"x": "c", "a": "z", "y": "d"})
        for value in (None, True, 0, ("a",), "", "A", "aa"):
            self.assert_unknown(value, rename, network, {"a": "z", value: "c", "b": "y"})

    def test_unknown_ends(self):
        one, other = edits_network(), Network(12, 3, ["c", "d"], [("h", "c", "d", (1, 1), [0])])
        for source, target, name in (("x", "a", "x"), ("x", "y", "x"), ("a", "y", "y"), ("a", "b", "b"), ("a", "a", "a"), ("c", "d", "d"),
                                     ("d", "d", "d"), ("e", "c", "e"), ("a", "h", "h"), ("c", "e", "e"), ("k", "k", "k")):
            for first, second in ((one, other), (other, one)):
                self.assert_unknown(name, unite, first, second, ("k", source, target, (1, 0), [0]))

    def test_later_changes_have_no_effect(self):
        network = edits_network()
        residues, names, edge = [2, 1], {"a": "z"}, ("k", "c", "a", (1, 0), [1, 0])
        changed, renamed = change_residues(network, "e", residues), rename(network, names)
        united = unite(network, Network(12, 3, ["c"], []), edge)
        residues.append(0)
        names["b"] = "y"
        edge[4].append(2)
        self.assert_exactly(changed.edge("e"), ("a", "b", (5, 7), (1, 2)))
        self.assertEqual(renamed.nodes(), ["b", "z"])
        self.assert_exactly(united.edge("k"), ("c", "a", (1, 0), (0, 1)))
        for found in (changed, renamed, united, remove_edge(network, "g"), relabel(network, (1, 1))):
            found.nodes().clear()
            found.edges().clear()
            self.assertGreater(len(found.nodes()) * len(found.edges()), 0)
        self.assertTrue(network == edits_network())

    def test_edges_that_lead_nowhere_new(self):
        network = edits_network()
        for u in ((1, 0), (7, 5)):
            halves = subdivide(network, "g", "c", "h", u)
            self.assertEqual(compose(12, halves.edge("g")[2], halves.edge("h")[2]), (1, 3))
            self.assertEqual([halves.edge("g")[:2], halves.edge("h")[:2]], [("b", "c"), ("c", "b")])


def range_list(count):
    return list(range(count))


if __name__ == "__main__":
    unittest.main()
