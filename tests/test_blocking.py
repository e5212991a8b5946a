import random
import time
import unittest
from itertools import combinations

from affinewalk.blocking import accepts_blocking, blocking_certificate, decides, maximal_open, minimal_blocking
from affinewalk.compressed import follow_compressed, is_compressed
from affinewalk.edits import remove_edge
from affinewalk.errors import InvalidPath, UnknownName
from affinewalk.exclusions import exclusion
from affinewalk.networks import Network
from affinewalk.reach import can_reach, reach
from tests.literal import distances, holds_excludes, holds_exclusion, large_networks, small_networks
from tests.support import KeepsArguments, any_values, variations
from tests.test_exclusions import some_states, walk


def blocking_network():
    return Network(12, 1, ["a", "b", "c"], [("e", "a", "b", (1, 0), [0]), ("f", "a", "b", (1, 0), [0]), ("g", "b", "c", (1, 0), [0])])


def less(network, names):
    for name in names:
        network = remove_edge(network, name)
    return network


def subsets(names):
    return [some for size in range(len(names) + 1) for some in combinations(sorted(names), size)]


def literal_sets(network, first, second, candidates):
    """The minimal blocking sets and the maximal open sets, by a search for each set of candidates."""
    blocks = {names: second not in distances(less(network, names), first) for names in subsets(candidates)}
    minimal = [names for names in blocks if blocks[names] and not any(blocks[o] and set(o) < set(names) for o in blocks)]
    maximal = [names for names in blocks if not blocks[names] and not any(not blocks[o] and set(names) < set(o) for o in blocks)]
    return sorted(minimal), sorted(maximal), blocks


def holds_decides(candidates, blocking, open_sets):
    for size in range(len(candidates) + 1):
        for names in combinations(candidates, size):
            above = any(set(some) <= set(names) for some in blocking)
            below = any(set(names) <= set(some) for some in open_sets)
            if above == below:
                return False
    return True


def holds_blocking(network, first, second, names, certificate):
    """Point 33."""
    left = less(network, names)
    if type(certificate) is not tuple or len(certificate) != 2:
        return False
    word, value = certificate
    if word == "blocks":
        return holds_exclusion(left, first, value) and holds_excludes(left, first, value, second)
    if word == "open" and is_compressed(value):
        try:
            return follow_compressed(left, first, value) == second
        except InvalidPath:
            return False
    return False


class BlockingTest(KeepsArguments, unittest.TestCase):
    def assert_unknown(self, value, function, *arguments):
        with self.assertRaises(UnknownName, msg=value) as caught:
            self.call(function, *arguments)
        self.assert_exactly(caught.exception.name, value)

    def questions(self, seed, count):
        for network in small_networks(seed, count):
            chosen = random.Random(network.modulus() + seed)
            names = [edge[0] for edge in network.edges()]
            for state in some_states(network, 1)[-1:]:
                ends = [state, (chosen.choice(network.nodes()), chosen.randrange(network.modulus()))]
                for other in ends + walk(network, state, chosen, 6)[2::2]:
                    yield network, state, other, chosen.sample(names, min(len(names), chosen.randint(0, 6)))

    def test_examples(self):
        network = blocking_network()
        self.assert_exactly(minimal_blocking(network, ("a", 0), ("c", 0), ["e", "f", "g"]), [("e", "f"), ("g",)])
        self.assert_exactly(blocking_certificate(network, ("a", 0), ("c", 0), ["g"])[0], "blocks")
        self.assert_exactly(accepts_blocking(network, ("a", 0), ("c", 0), ("e",), ("open", [[("f", "forward"), ("g", "forward")]])), True)
        self.assert_exactly(decides(["e", "f", "g"], [("e", "f"), ("g",)], [("e",), ("f",)]), True)
        self.assert_exactly(decides(["e", "f"], [("e",)], []), False)
        self.assert_exactly(maximal_open(network, ("a", 0), ("c", 0), ["e", "f", "g"]), [("e",), ("f",)])

    def test_by_name(self):
        network = blocking_network()
        self.assertEqual(minimal_blocking(candidates=["g"], second=("c", 0), first=("a", 0), network=network), [("g",)])
        self.assertEqual(maximal_open(candidates=["g"], second=("c", 0), first=("a", 0), network=network), [()])
        certificate = blocking_certificate(names=["g"], second=("c", 0), first=("a", 0), network=network)
        self.assertIs(accepts_blocking(certificate=certificate, names=["g"], second=("c", 0), first=("a", 0), network=network), True)
        self.assertIs(decides(open_sets=[()], blocking=[("g",)], candidates=["g"]), True)

    def test_small_networks_by_search(self):
        kinds = {}
        for network, state, other, names in self.questions(51, 120):
            minimal, maximal, blocks = literal_sets(network, state, other, names)
            for order in (names, names[::-1], tuple(sorted(names))):
                self.assert_exactly(self.call(minimal_blocking, network, state, other, order), minimal)
                self.assert_exactly(self.call(maximal_open, network, state, other, order), maximal)
                self.assertIs(self.call(decides, order, minimal, maximal), True)
            self.assertIs(holds_decides(names, minimal, maximal), True)
            kinds[min(len(minimal), 3), min(len(maximal), 3)] = True
            for some in list(blocks)[::3]:
                certificate = self.call(blocking_certificate, network, state, other, some)
                self.assert_exactly(blocking_certificate(network, state, other, list(some[::-1])), certificate)
                self.assertEqual(certificate[0], "blocks" if blocks[some] else "open")
                self.assertIs(holds_blocking(network, state, other, some, certificate), True)
                self.assertIs(self.call(accepts_blocking, network, state, other, some, certificate), True)
        self.assertGreater(len(kinds), 5)

    def test_states_that_are_equal_or_not_connected(self):
        network = blocking_network()
        for names in ([], ["e"], ["g", "f"], ["g", "e", "f"]):
            for state in (("a", 0), ("c", 7)):
                self.assert_exactly(minimal_blocking(network, state, state, names), [])
                self.assert_exactly(maximal_open(network, state, state, names), [tuple(sorted(names))])
            self.assert_exactly(minimal_blocking(network, ("a", 0), ("c", 1), names), [()])
            self.assert_exactly(maximal_open(network, ("a", 0), ("c", 1), names), [])
        self.assert_exactly(minimal_blocking(network, ("a", 0), ("c", 0), []), [])
        self.assert_exactly(maximal_open(network, ("a", 0), ("c", 0), ()), [()])

    def test_certificates_for_other_sets_and_states(self):
        """For each set exactly one of the two forms is accepted, also if the certificate is one for another set."""
        accepted = {False: 0, True: 0}
        for network, state, other, names in self.questions(52, 50):
            certificates = [blocking_certificate(network, state, other, some) for some in subsets(names)[::2]]
            # An exclusion that is accepted, but excludes the second state only if the set blocks.
            certificates += [("blocks", exclusion(less(network, some), state)) for some in subsets(names)[::2]]
            for some in subsets(names)[::2]:
                words = set()
                for certificate in certificates + [(word, value) for word, (_, value) in zip(["open", "blocks"] * 32, certificates)]:
                    found = self.call(accepts_blocking, network, state, other, some, certificate)
                    self.assertIs(found, holds_blocking(network, state, other, some, certificate))
                    accepted[found] += 1
                    if found:
                        words.add(certificate[0])
                self.assertEqual(len(words), 1)
        self.assertGreater(min(accepted.values()), 200)

    def test_changed_certificates(self):
        network = blocking_network()
        for names in (["g"], ["e"], [], ["f", "e"]):
            certificate = blocking_certificate(network, ("a", 3), ("c", 3), names)
            for other in variations(certificate):
                found = self.call(accepts_blocking, network, ("a", 3), ("c", 3), names, other)
                self.assertIs(found, holds_blocking(network, ("a", 3), ("c", 3), names, other), other)

    def test_any_value_as_certificate(self):
        network = blocking_network()
        for value in any_values():
            for other in (value, ("blocks", value), ("open", value), (value, exclusion(network, ("a", 0))), ("open", [value]),
                          (value, [[("e", "forward")]]), ("blocks", value, value), ["open", [[("e", "forward"), ("g", "forward")]]]):
                self.assert_false_for(accepts_blocking, network, ("a", 0), ("c", 0), [], other)
                self.assert_unknown("x", accepts_blocking, network, ("a", 0), ("c", 0), ["e", "x", "y"], other)
        rows = [[("e", "forward"), ("g", "forward")]]
        self.assertIs(accepts_blocking(network, ("a", 0), ("c", 0), ["f"], ("open", rows)), True)
        self.assertIs(accepts_blocking(network, ("a", 0), ("c", 0), ["e"], ("open", rows)), False)
        self.assertIs(accepts_blocking(network, ("a", 0), ("c", 1), ["f"], ("open", rows)), False)
        self.assertIs(accepts_blocking(network, ("a", 0), ("c", 0), ["f"], ("open", rows + [[(0, 2)]])), False)
        self.assertIs(accepts_blocking(network, ("a", 0), ("c", 0), ["f"], ("open", rows + [[(0, 1), (0, -1), (0, 1)]])), True)

    def test_unknown_names(self):
        network = blocking_network()
        for function in (minimal_blocking, maximal_open, blocking_certificate):
            for names, value in ((["x"], "x"), (["e", "y", "x"], "y"), (("a",), "a"), (["e", "f", "g", "c"], "c"), (["zz", "e"], "zz")):
                self.assert_unknown(value, function, network, ("a", 0), ("a", 0), names)
                self.assert_unknown(value, function, network, ("a", 0), ("c", 1), names)
                self.assert_unknown(value, accepts_blocking, network, ("a", 0), ("c", 1), names, None)

    def test_decides_by_going_through_all_sets(self):
        found = {False: 0, True: 0}
        chosen = random.Random(5)
        for _ in range(400):
            names = chosen.sample(["a", "b", "c", "dd", "e", "f"], chosen.randint(0, 6))
            every = subsets(names)
            minimal = chosen.sample(every, min(len(every), chosen.choice([0, 1, 1, 2, 3])))
            fits = [some for some in every if not any(set(other) <= set(some) for other in minimal)]
            for open_sets in (fits, [some for some in fits if not any(set(some) < set(o) for o in fits)], fits[1:], fits[:-1],
                              fits + minimal[:1], chosen.sample(every, min(len(every), 2))):
                blocking = chosen.sample(minimal + minimal[:1], len(minimal + minimal[:1]))
                wanted = holds_decides(names, blocking, open_sets)
                self.assertIs(self.call(decides, names, blocking, open_sets), wanted)
                self.assertIs(decides(tuple(names[::-1]), blocking + blocking, open_sets[::-1] + open_sets), wanted)
                found[wanted] += 1
        self.assertGreater(min(found.values()), 300)
        self.assert_exactly([decides([], [], []), decides([], [()], []), decides([], [], [()]), decides([], [()], [()])],
                            [False, True, True, False])

    def test_changed_results_change_nothing(self):
        network = blocking_network()
        for function in (minimal_blocking, maximal_open):
            function(network, ("a", 0), ("c", 0), ["e", "f", "g"]).clear()
            self.assertEqual(len(function(network, ("a", 0), ("c", 0), ["e", "f", "g"])), 2)
        certificate = blocking_certificate(network, ("a", 0), ("c", 0), ["e"])
        certificate[1].clear()
        self.assertIs(accepts_blocking(network, ("a", 0), ("c", 0), ["e"], blocking_certificate(network, ("a", 0), ("c", 0), ["e"])), True)

    def test_networks_at_the_limits(self):
        kinds = set()
        for network in large_networks()[::3] + large_networks()[-2:]:
            m = network.modulus()
            chosen = random.Random(m + 29)
            state = (network.nodes()[0], chosen.randrange(m))
            names = [edge[0] for edge in network.edges()]
            for other in (walk(network, state, chosen, 5)[-1], (state[0], chosen.randrange(m))):
                some = chosen.sample(names, min(6, len(names)))
                start = time.process_time()
                minimal = minimal_blocking(network, state, other, some)
                maximal = maximal_open(network, state, other, some)
                self.assertLess(time.process_time() - start, 60)
                self.assertIs(decides(some, minimal, maximal), True)
                self.assertIs(holds_decides(some, minimal, maximal), True)
                kinds.add((len(minimal) > 0, len(maximal) > 0))
                for word, sets in (("blocks", minimal), ("open", maximal)):
                    self.assertEqual(sets, sorted(sets))
                    for chosen_names in sets[:2]:
                        certificate = blocking_certificate(network, state, other, chosen_names)
                        self.assertEqual(certificate[0], word)
                        self.assertIs(accepts_blocking(network, state, other, chosen_names, certificate), True)
                        left = less(network, chosen_names)
                        self.assertIs(can_reach(left, state, other), word == "open")
                        self.assertEqual(reach(left, state, other) is not None, word == "open")
        self.assertGreater(len(kinds), 1)


if __name__ == "__main__":
    unittest.main()
