import random
import re
import unittest

from affinewalk.errors import InvalidPath, InvalidStep, InvalidText
from affinewalk.maps import apply_map, compose, inverse, is_map
from affinewalk.networks import Network
from affinewalk.paths import follow, format_path, is_step, parse_path, path_map, reverse_path, steps, take_step
from affinewalk.states import class_of
from tests.support import (KeepsArguments, Number, Row, Text, any_values, first_network, kinds_of, largest_parts,
                           random_parts)

TEXT = re.compile("(|[a-z]{1,8} (forward|backward)(, [a-z]{1,8} (forward|backward))*)")
OTHER = {"forward": "backward", "backward": "forward"}
NOT_STEPS = [
    ("e", "Forward"), ("e", "forwards"), ("e", "for"), ("e", ""), ("e", "forward "), (" e", "forward"), ("E", "forward"),
    ("", "forward"), ("abcdefghi", "forward"), ("e1", "backward"), ("e\n", "forward"), ("e", "forward\n"), ("e", None),
    ("e", True), (True, "forward"), (None, "backward"), ("forward", "e"), ["e", "forward"], ("e",), ("forward",),
    ("e", "forward", "forward"), ("e", "forward", None), (("e", "forward"),), (("e",), "forward"), (["e"], "forward"),
    ("e", ("forward",)), ("e", ["forward"]), ({"e": 1}, "forward"), ("e", {"forward": 1}), {"e": "forward"},
    {"e": 0, "forward": 1}, "e forward", "ef", ("e", 0), (0, 1), (0, "forward"), (10 ** 99, "forward"), (b"e", "forward"),
    [("e", "forward")], (("e", "forward"), ("e", "forward")),
]


def handmade_networks():
    """Loops, parallel edges, empty residues, all residues, nodes without edges."""
    return [
        first_network(),
        Network(12, 3, ["a", "b"], [("e", "a", "b", (5, 1), [0, 2]), ("g", "b", "a", (7, 0), [1])]),
        Network(2, 1, ["a"], [("e", "a", "a", (1, 1), [0])]),
        Network(2, 2, ["a"], [("e", "a", "a", (1, 1), [0]), ("f", "a", "a", (1, 0), [1]), ("g", "a", "a", (1, 1), [])]),
        Network(6, 6, ["a", "b", "c"], [("e", "a", "b", (5, 2), [0, 3, 5]), ("f", "a", "b", (5, 2), [1, 3]),
                                        ("g", "b", "a", (1, 3), []), ("h", "b", "b", (1, 1), [0, 1, 2, 3, 4, 5])]),
        Network(9, 3, ["a", "b"], [("ab", "a", "b", (2, 1), [0, 1, 2]), ("b" * 8, "b", "a", (4, 4), [2])]),
        Network(9, 1, ["only"], []),
    ]


def small_networks():
    networks = handmade_networks()
    for seed in range(150):
        parts = random_parts(seed)
        if parts[0] <= 60:
            networks.append(Network(*parts))
    return networks


def joints(network):
    """All that the edges join, number by number: a dict from (state, step) to the state after the step."""
    found = {}
    for name, source, target, (a, b), residues in network.edges():
        for x in range(network.modulus()):
            if x % network.watch() in residues:
                y = (a * x + b) % network.modulus()
                found[(source, x), (name, "forward")] = (target, y)
                found[(target, y), (name, "backward")] = (source, x)
    return found


def wanted_reason(network, joined, state, step):
    """The first reason against a step that has the form of one, or None."""
    edges = {edge[0]: edge for edge in network.edges()}
    if step[0] not in edges:
        return "edge"
    if edges[step[0]][1 if step[1] == "forward" else 2] != state[0]:
        return "node"
    return None if (state, step) in joined else "residue"


def all_states(network):
    return [(node, x) for node in network.nodes() for x in range(network.modulus())]


def large_networks():
    networks = [Network(*largest_parts())]
    for seed in range(60):
        parts = random_parts(seed)
        if parts[0] > 10 ** 6:
            networks.append(Network(*parts))
    return networks


def walk(network, chosen, length):
    """A state and a path of at most this length from it, by steps that can be taken."""
    state = (chosen.choice(network.nodes()), chosen.randrange(network.modulus()))
    first, path = state, []
    while len(path) < length and steps(network, state):
        path.append(chosen.choice(steps(network, state)))
        state = take_step(network, state, path[-1])
    return first, path


class StepsTest(KeepsArguments, unittest.TestCase):
    def assert_invalid(self, network, state, step, reason):
        with self.assertRaises(InvalidStep, msg=(state, step)) as caught:
            self.call(take_step, network, state, step)
        self.assert_exactly(caught.exception.reason, reason)

    def test_examples(self):
        network = Network(12, 3, ["a", "b"], [("e", "a", "b", (5, 1), [0, 2]), ("g", "b", "a", (7, 0), [1])])
        self.assert_exactly(steps(network, ("a", 0)), [("e", "forward")])
        self.assert_exactly(steps(network, ("b", 1)), [("e", "backward"), ("g", "forward")])
        self.assert_exactly(take_step(network, ("a", 0), ("e", "forward")), ("b", 1))
        self.assert_invalid(network, ("a", 1), ("e", "forward"), "residue")

    def test_by_name(self):
        self.assertEqual(steps(state=("b", 5), network=first_network()), [])
        self.assertEqual(take_step(step=("e", "forward"), state=("a", 0), network=first_network()), ("b", 4))

    def test_number_by_number(self):
        for network in small_networks():
            joined = joints(network)
            names = [edge[0] for edge in network.edges()]
            candidates = sorted({(name, word) for name in names + ["unknown", "a"] for word in OTHER})
            for state in all_states(network):
                wanted = sorted([step for step in candidates if (state, step) in joined])
                self.assert_exactly(steps(network, state), wanted)
                for step in candidates:
                    reason = wanted_reason(network, joined, state, step)
                    if reason is None:
                        self.assert_exactly(take_step(network, state, step), joined[state, step])
                    else:
                        with self.assertRaises(InvalidStep, msg=(state, step)) as caught:
                            take_step(network, state, step)
                        self.assert_exactly(caught.exception.reason, reason)

    def test_arguments_are_unchanged(self):
        for network in handmade_networks():
            for state in all_states(network):
                for step in self.call(steps, network, state):
                    self.call(take_step, network, state, step)

    def test_all_reasons_occur_in_this_order(self):
        network = first_network()
        self.assert_invalid(network, ("b", 2), ("a", "forward"), "edge")
        self.assert_invalid(network, ("b", 2), ("e", "forward"), "node")
        self.assert_invalid(network, ("b", 2), ("e", "backward"), "residue")
        self.assert_invalid(network, ("b", 0), ("f", "backward"), "node")
        self.assert_invalid(network, ("b", 2), ("zz", "Forward"), "form")

    def test_any_value_as_step(self):
        for value in any_values() + NOT_STEPS:
            self.assertIs(self.call(is_step, value), False)
            for network in (first_network(), Network(9, 1, ["only"], [])):
                for state in ((network.nodes()[0], 0), (network.nodes()[-1], network.modulus() - 1)):
                    self.assert_invalid(network, state, value, "form")

    def test_steps_with_any_names(self):
        for name in ("a", "zzzzzzzz", "forward", "backward", "e"):
            for word in ("forward", "backward"):
                self.assertIs(is_step((name, word)), True)

    def test_steps_lead_back(self):
        for network in small_networks() + large_networks():
            chosen = random.Random(network.modulus())
            states = all_states(network) if network.modulus() <= 60 else [walk(network, chosen, k)[0] for k in range(40)]
            for state in states:
                for name, word in steps(network, state):
                    after = take_step(network, state, (name, word))
                    self.assertIn((name, OTHER[word]), steps(network, after))
                    self.assertEqual(take_step(network, after, (name, OTHER[word])), state)

    def test_steps_depend_on_the_class_alone(self):
        for network in small_networks() + large_networks():
            m, watch = network.modulus(), network.watch()
            for node in network.nodes():
                for residue in range(min(watch, 20)):
                    first = steps(network, (node, residue))
                    for x in (residue + watch * (m // watch - 1), residue + watch * (m // watch // 2)):
                        self.assertEqual(steps(network, (node, x)), first)
                        for step in first:
                            self.assertEqual(class_of(network, take_step(network, (node, x), step)),
                                             class_of(network, take_step(network, (node, residue), step)))

    def test_a_changed_list_changes_no_later_answer(self):
        network = first_network()
        first = steps(network, ("a", 0))
        wanted = list(first)
        first.append(("zz", "forward"))
        first[0] = None
        self.assertEqual(steps(network, ("a", 0)), wanted)
        self.assertTrue(network == first_network())

    def test_derived_kinds_give_plain_results(self):
        network, state = first_network(), Row((Text("a"), Number(0)))
        step = Row((Text("e"), Text("forward")))
        self.assert_exactly(steps(network, state), [("e", "forward"), ("g", "backward"), ("g", "forward")])
        self.assert_exactly(take_step(network, state, step), ("b", 4))
        self.assert_exactly(follow(network, state, [step]), [("a", 0), ("b", 4)])
        self.assert_exactly(path_map(network, state, Row((step,))), (1, 4))
        self.assert_exactly(reverse_path(Row((step,))), (("e", "backward"),))
        self.assert_exactly(format_path([step]), "e forward")
        self.assert_exactly(parse_path(Text("e forward, g backward")), (("e", "forward"), ("g", "backward")))
        self.assert_exactly(parse_path(Text("")), ())


class FollowTest(KeepsArguments, unittest.TestCase):
    def assert_invalid(self, network, state, path, index, reason):
        for function in (follow, path_map):
            with self.assertRaises(InvalidPath, msg=(state, path)) as caught:
                self.call(function, network, state, path)
            self.assert_exactly((caught.exception.index, caught.exception.reason), (index, reason))

    def test_examples(self):
        network = Network(12, 3, ["a", "b"], [("e", "a", "b", (5, 1), [0, 2]), ("g", "b", "a", (7, 0), [1])])
        path = [("e", "forward"), ("g", "forward")]
        self.assert_exactly(follow(network, ("a", 0), path), [("a", 0), ("b", 1), ("a", 7)])
        self.assert_exactly(path_map(network, ("a", 0), path), (11, 7))
        self.assert_exactly(reverse_path(path), (("g", "backward"), ("e", "backward")))
        self.assert_invalid(network, ("a", 0), [("e", "forward"), ("e", "forward")], 1, "node")

    def test_by_name(self):
        path = [("e", "forward")]
        self.assertEqual(follow(path=path, state=("a", 0), network=first_network()), [("a", 0), ("b", 4)])
        self.assertEqual(path_map(path=path, state=("a", 0), network=first_network()), (1, 4))
        self.assertEqual(reverse_path(path=path), (("e", "backward"),))
        self.assertEqual(format_path(path=path), "e forward")
        self.assertEqual(parse_path(text="e forward"), (("e", "forward"),))

    def test_no_step(self):
        for network in small_networks() + large_networks():
            for state in ((network.nodes()[0], 0), (network.nodes()[-1], network.modulus() - 1)):
                for path in ([], ()):
                    self.assert_exactly(self.call(follow, network, state, path), [state])
                    self.assert_exactly(self.call(path_map, network, state, path), (1, 0))
        self.assert_exactly([reverse_path([]), reverse_path(())], [(), ()])

    def test_walks_step_by_step(self):
        longest = 0
        for network in small_networks() + large_networks():
            chosen = random.Random(network.modulus() + len(network.edges()))
            for length in (1, 2, 5, 40):
                state, path = walk(network, chosen, length)
                longest = max(longest, len(path))
                states = self.call(follow, network, state, path)
                self.assert_exactly(self.call(follow, network, state, tuple(path)), states)
                self.assertEqual(states[0], state)
                self.assertEqual(kinds_of(states), kinds_of([("a", 0)] * (len(path) + 1)))
                for before, step, after in zip(states, path, states[1:]):
                    self.assertEqual(take_step(network, before, step), after)
                f = self.call(path_map, network, state, path)
                self.assert_exactly(self.call(path_map, network, state, tuple(path)), f)
                self.assertTrue(is_map(network.modulus(), f))
                self.assertEqual(kinds_of(f), kinds_of((1, 0)))
                self.assertEqual(apply_map(network.modulus(), f, state[1]), states[-1][1])
        self.assertEqual(longest, 40)

    def test_path_map_is_the_composition(self):
        for network in small_networks() + large_networks():
            m, chosen = network.modulus(), random.Random(network.modulus())
            state, path = walk(network, chosen, 12)
            wanted = (1, 0)
            for name, word in path:
                f = network.edge(name)[2]
                wanted = compose(m, wanted, f if word == "forward" else inverse(m, f))
            self.assertEqual(path_map(network, state, path), wanted)
            other = (state[0], (state[1] + network.watch()) % m)
            self.assertEqual(path_map(network, other, path), wanted)
            self.assertEqual(apply_map(m, wanted, other[1]), follow(network, other, path)[-1][1])

    def test_paths_joined(self):
        for network in small_networks() + large_networks():
            m, chosen = network.modulus(), random.Random(network.modulus())
            state, path = walk(network, chosen, 20)
            for cut in {0, 1, len(path) // 2, len(path)}:
                first, second = path[:cut], path[cut:]
                middle = follow(network, state, first)[-1]
                self.assertEqual(follow(network, state, first)[:-1] + follow(network, middle, second),
                                 follow(network, state, path))
                self.assertEqual(compose(m, path_map(network, state, first), path_map(network, middle, second)),
                                 path_map(network, state, path))

    def test_reversed_paths_lead_back(self):
        for network in small_networks() + large_networks():
            m, chosen = network.modulus(), random.Random(network.modulus())
            for length in (1, 2, 30):
                state, path = walk(network, chosen, length)
                back = self.call(reverse_path, path)
                self.assert_exactly(back, tuple((name, OTHER[word]) for name, word in reversed(path)))
                self.assert_exactly(self.call(reverse_path, tuple(path)), back)
                self.assert_exactly(reverse_path(back), tuple(path))
                states = follow(network, state, path)
                self.assertEqual(follow(network, states[-1], back), states[::-1])
                self.assertEqual(path_map(network, states[-1], back), inverse(m, path_map(network, state, path)))

    def test_reverse_path_of_unknown_names(self):
        self.assert_exactly(reverse_path([("nowhere", "forward"), ("z", "backward")]), (("z", "forward"), ("nowhere", "backward")))

    def test_first_step_that_cannot_be_taken(self):
        reasons = set()
        for network in small_networks()[::3] + large_networks()[::4]:
            chosen = random.Random(network.modulus())
            candidates = [(name, word) for name in [edge[0] for edge in network.edges()] + ["nowhere"] for word in OTHER]
            for length in (0, 1, 5):
                state, path = walk(network, chosen, length)
                end = follow(network, state, path)[-1]
                for step in candidates[:12] + candidates[-2:]:
                    if step not in steps(network, end):
                        with self.assertRaises(InvalidStep) as caught:
                            take_step(network, end, step)
                        reasons.add(caught.exception.reason)
                        for rest in ([], [None], path, [("e", "form")]):
                            self.assert_invalid(network, state, path + [step] + rest, len(path), caught.exception.reason)
                        self.assert_invalid(network, state, (*path, step), len(path), caught.exception.reason)
        self.assertEqual(reasons, {"edge", "node", "residue"})

    def test_any_value_as_item(self):
        network = first_network()
        for value in any_values() + NOT_STEPS:
            self.assert_invalid(network, ("a", 0), [value], 0, "form")
            self.assert_invalid(network, ("a", 0), (("g", "forward"), ("g", "backward"), value, ("zz", "forward")), 2, "form")

    def test_a_changed_list_changes_no_later_answer(self):
        network, path = first_network(), [("g", "forward"), ("e", "forward")]
        first = follow(network, ("a", 0), path)
        first.clear()
        self.assertEqual(follow(network, ("a", 0), path), [("a", 0), ("a", 3), ("b", 7)])

    def test_long_paths(self):
        network = first_network()
        path = [("g", "forward")] * 20000 + [("g", "backward")] * 20001
        self.assertEqual(follow(network, ("a", 0), path)[-1], ("a", 9))
        self.assertEqual(path_map(network, ("a", 0), path), (1, 9))
        self.assert_invalid(network, ("a", 0), path + [("f", "forward")], 40001, "node")
        self.assertEqual(parse_path(format_path(path)), tuple(path))


class PathNotationTest(KeepsArguments, unittest.TestCase):
    def assert_invalid(self, value):
        with self.assertRaises(InvalidText, msg=value) as caught:
            self.call(parse_path, value)
        self.assert_exactly(caught.exception.line, 0)

    def test_texts_of_the_document(self):
        path = (("e", "forward"), ("g", "backward"))
        self.assert_exactly(self.call(format_path, path), "e forward, g backward")
        self.assert_exactly(self.call(format_path, list(path)), "e forward, g backward")
        self.assert_exactly(parse_path("e forward, g backward"), path)
        self.assert_exactly([format_path([]), format_path(()), parse_path("")], ["", "", ()])

    def test_each_path_is_read_again(self):
        chosen = random.Random(0)
        names = ["a", "zzzzzzzz", "forward", "backward", "abc", "e", "when"]
        for length in list(range(8)) + [100]:
            path = [(chosen.choice(names), chosen.choice(list(OTHER))) for _ in range(length)]
            text = self.call(format_path, path)
            self.assertEqual(text, ", ".join(name + " " + word for name, word in path))
            self.assert_exactly(self.call(parse_path, text), tuple(path))

    def test_changed_texts(self):
        for text in ("", "e forward", "ab backward, forward backward", "abcdefgh forward, z forward, z backward"):
            changed = {text[:k] + text[k + 1:] for k in range(len(text))}
            for sign in " ,\nabdefgorwz0A._-\t":
                changed.update([text[:k] + sign + text[k + 1:] for k in range(len(text))])
                changed.update([text[:k] + sign + text[k:] for k in range(len(text) + 1)])
            accepted = [other for other in sorted(changed) if TEXT.fullmatch(other)]
            self.assertEqual(accepted != [], text != "")
            for other in sorted(changed):
                if other in accepted:
                    self.assertEqual(format_path(parse_path(other)), other)
                else:
                    self.assert_invalid(other)

    def test_named_faults(self):
        for text in (" ", ",", ", ", "e", "e ", " forward", "forward", "eforward", "e  forward", "e forward ", " e forward",
                     "e forward,", "e forward, ", ", e forward", "e forward,g forward", "e forward , g forward",
                     "e forward,  g forward", "e forward, , g forward", "e forward,, g forward", "e forward g forward",
                     "e forward\n", "\ne forward", "e forward,\ng forward", "e forwards", "e Forward", "e FORWARD", "e for",
                     "e up", "E forward", "e1 forward", "abcdefghi forward", "e forward, abcdefghi backward",
                     "e-f forward", "e forward; g forward", "e forward, g", "e, forward", "(e forward)", "0 ^ 3",
                     "\u00e4 forward", "e\tforward", "e\u00a0forward", "e forward, g backward, e sideways"):
            self.assert_invalid(text)

    def test_any_value(self):
        for value in any_values() + [("e forward",), ["e forward"], ("e", "forward"), [("e", "forward")], b"e forward"]:
            if value != "":
                self.assert_invalid(value)
