"""The whole program: its answers agree with one another, and its interface is the one that the document lists."""

import importlib
import inspect
import random
import unittest

from affinewalk.arithmetic import chain
from affinewalk.blocking import accepts_blocking, blocking_certificate
from affinewalk.certificates import distance_certificate, period_certificate
from affinewalk.classes import loops, part, same_part, tree_paths
from affinewalk.compressed import compressed_map, expand, follow_compressed, join_compressed, reverse_compressed, step_count
from affinewalk.counts import count_at, count_reachable, home_order, index_at, reachable_at, separating_divisor
from affinewalk.cycles import cycles, has_full_period
from affinewalk.edits import change_map, relabel, remove_edge, rename, reverse_edge, subdivide, unite
from affinewalk.errors import TooLong
from affinewalk.exclusions import excludes, exclusion, is_accepted
from affinewalk.maps import apply_map, compose, inverse, iterate, power
from affinewalk.networks import Network
from affinewalk.orbits import distance, joint_distance, map_distance, order, period
from affinewalk.paths import follow, path_map
from affinewalk.reach import can_reach, reach, reach_by_map
from affinewalk.session_notation import format_session, parse_session
from affinewalk.sessions import Session
from affinewalk.states import class_of
from affinewalk.symmetries import commuting_count, commuting_index, conjugator
from affinewalk.towers import build_tower, group_order, in_group, sifts, sifts_number
from tests.literal import all_states, large_networks, random_map, small_networks
from tests.support import LARGE_MODULI, SMALL_MODULI, KeepsArguments, first_network, kinds_of, structured_maps
from tests.test_blocking import blocking_network
from tests.test_edits import edits_network
from tests.test_exclusions import some_states, walk
from tests.test_sessions import example_session

SIGNATURES = {
    "errors": "InvalidText(line) InvalidStep(reason) InvalidPath(index,reason) UnknownName(name) OutOfRange(value) NothingLeft(action)"
              " TooLong(limit)",
    "arithmetic": "is_modulus(value) chain(m)",
    "maps": "is_map(m,value) apply_map(m,f,x) compose(m,first,second) inverse(m,f) power(m,f,exponent) iterate(m,f,x,count)",
    "map_notation": "format_map(f) parse_map(m,text)",
    "networks": "Network(modulus,watch,nodes,edges)",
    "network_notation": "format_network(network) parse_network(text)",
    "states": "is_state(network,value) is_class(network,value) class_of(network,state)",
    "paths": "steps(network,state) take_step(network,state,step) follow(network,state,path) path_map(network,state,path)"
             " reverse_path(path) format_path(path) parse_path(text)",
    "orbits": "period(m,f,x) order(m,f) distance(m,f,x,y) joint_distance(m,first,second) map_distance(m,f,g)",
    "cycles": "fixed_points(m,f) cycles(m,f) has_full_period(m,f)",
    "symmetries": "conjugator(m,f,g) commuting_count(m,f) commuting_at(m,f,index) commuting_index(m,f,g)",
    "certificates": "period_certificate(m,f,x,*,divisor=None) accepts_period(m,f,x,certificate,*,divisor=None)"
                    " distance_certificate(m,f,x,y) accepts_distance(m,f,x,y,certificate) joint_certificate(m,first,second)"
                    " accepts_joint(m,first,second,certificate)",
    "segments": "first_overlap(m,f,starts,n)",
    "points": "maps_through(m,points) map_through(m,points,index) index_through(m,points,f) misfit_certificate(m,points)"
              " accepts_misfit(m,points,certificate)",
    "compressed": "is_compressed(value) step_count(path) expand(path,*,limit=1000) reverse_compressed(path)"
                  " join_compressed(first,second) follow_compressed(network,state,path) compressed_map(network,state,path)",
    "classes": "part(network,state) same_part(network,state,other) tree_paths(network,state) loops(network,state)",
    "towers": "is_tower(m,x,value) sifts(m,x,tower,h,*,level=0) sifts_number(m,x,tower,z) is_closed(m,x,value)"
              " build_tower(m,x,maps) group_order(m,maps) in_group(m,maps,h)",
    "exclusions": "exclusion(network,state) is_accepted(network,state,value) excludes(network,state,value,other)",
    "reach": "can_reach(network,state,other) reach(network,state,other) reach_by_map(network,state,place,f)",
    "counts": "digits(m,x) home_order(network,state) count_reachable(network,state) count_at(network,state,node)"
              " reachable_at(network,state,node,index) index_at(network,state,other) separating_divisor(network,state,other)",
    "edits": "remove_edge(network,name) change_residues(network,name,residues) change_map(network,name,f)"
             " reverse_edge(network,name) subdivide(network,name,node,new_name,u) rename(network,names) relabel(network,u)"
             " unite(one,other,edge)",
    "blocking": "minimal_blocking(network,first,second,candidates) maximal_open(network,first,second,candidates)"
                " blocking_certificate(network,first,second,names) accepts_blocking(network,first,second,names,certificate)"
                " decides(candidates,blocking,open_sets)",
    "sessions": "Session(network,state)",
    "session_notation": "format_session(session) parse_session(text)",
}
METHODS = {
    ("networks", "Network"): "modulus() watch() nodes() edges() edge(name)",
    ("sessions", "Session"): "take(step) jump(path) remove(name) undo() redo() actions() network(*,after=None) state(*,after=None)"
                             " reach(state) exclusion() count_reachable()",
}
QUESTION, OTHER_QUESTION = ((3, 1), 0, 4), ((5, 0), 1, 5)
TOWER = [[(1, 0), (1, 3)], [(1, 0), (1, 6)], [(1, 0)], [(1, 0)], [(1, 0)], [(1, 0)]]
PATH = [[("g", "forward")], [(0, 3)]]


def examples():
    """Arguments for each parameter of the interface, and others where a function wants others under the same name."""
    network = first_network()
    usual = {
        "m": 12, "f": (5, 1), "g": (5, 2), "h": (1, 9), "u": (7, 1), "x": 0, "y": 1, "z": 9, "value": 12, "index": 0, "line": 3,
        "reason": "form", "name": "e", "limit": 1000, "action": "undo", "first": (7, 2), "second": (5, 1), "exponent": -5, "count": 3,
        "text": "5*x + 1", "modulus": 12, "watch": 3, "nodes": ["a", "b"], "edges": [("e", "a", "b", (1, 4), [0])], "network": network,
        "state": ("a", 0), "other": ("b", 4), "step": ("e", "forward"), "path": (("e", "forward"), ("f", "forward")), "starts": [0, 2],
        "n": 5, "points": [(0, 1), (4, 9)], "certificate": ("reached", 0, (1, ())), "tower": TOWER, "level": 1, "maps": [(5, 1), (1, 6)],
        "node": "a", "residues": [1], "names": {"a": "z"}, "place": ("b", 1), "candidates": ["e", "g"], "blocking": [("e",)],
        "open_sets": [("g",)], "divisor": 4, "new_name": "k", "one": network, "edge": ("k", "c", "a", (1, 0), [0]),
    }
    states = {"first": ("a", 0), "second": ("c", 0), "network": blocking_network(), "names": ["g"], "certificate": ("blocks", None)}
    other = {
        "edits": {"node": "c"}, "blocking": states, "compressed": {"path": PATH, "value": PATH, "first": PATH, "second": PATH},
        "joint_distance": {"m": 8, "first": QUESTION, "second": OTHER_QUESTION}, "towers": {"value": TOWER},
        "joint_certificate": {"m": 8, "first": QUESTION, "second": OTHER_QUESTION}, "map_notation": {},
        "accepts_joint": {"m": 8, "first": QUESTION, "second": OTHER_QUESTION}, "is_map": {"value": (5, 1)}, "is_state": {"value": ("a", 1)},
        "is_class": {"value": ("a", 1)}, "parse_network": {"text": "modulus 12\nwatch 3\nnode a"}, "parse_path": {"text": "e forward"},
        "unite": {"other": Network(12, 3, ["c"], [])}, "format_session": {"session": example_session()}, "reach_by_map": {"f": (1, 10)},
        "parse_session": {"text": format_session(example_session())}, "excludes": {"value": exclusion(network, ("a", 0))},
        "is_accepted": {"value": exclusion(network, ("a", 0))},
    }
    return usual, other


def split_signature(text):
    name, _, rest = text.partition("(")
    return name, [word for word in rest[:-1].split(",") if word]


class InterfaceTest(KeepsArguments, unittest.TestCase):
    def listed(self):
        """All functions and classes of the interface, as tuples (file, name, words of its parameters)."""
        return [(file, *split_signature(text)) for file, texts in SIGNATURES.items() for text in texts.split()]

    def test_signatures(self):
        for file, name, words in self.listed():
            function = getattr(importlib.import_module(f"affinewalk.{file}"), name)
            self.assertEqual(function.__module__, f"affinewalk.{file}")
            self.assertEqual(str(inspect.signature(function)).replace(" ", ""), f"({','.join(words)})", name)

    def test_signatures_of_methods(self):
        for (file, title), texts in METHODS.items():
            kept = getattr(importlib.import_module(f"affinewalk.{file}"), title)
            for text in texts.split():
                name, words = split_signature(text)
                self.assertIn(name, vars(kept))
                self.assertEqual(str(inspect.signature(vars(kept)[name])).replace(" ", ""), f"({','.join(['self'] + words)})", name)
            self.assertIn("__eq__", vars(kept))

    def test_by_name_in_another_order(self):
        usual, other = examples()
        for file, name, words in self.listed():
            function = getattr(importlib.import_module(f"affinewalk.{file}"), name)
            values = {**usual, **other.get(file, {}), **other.get(name, {})}
            names = [word.split("=")[0] for word in words if word != "*"]
            more = {word: values[word] for word in names[words.index("*"):]} if "*" in words else {}
            plain = [values[word] for word in names if word not in more]
            wanted = function(*plain, **more)
            found = function(**{word: values[word] for word in names[::-1]})
            if isinstance(wanted, Exception):
                self.assertEqual(vars(found), dict(zip(names, plain)))
                self.assertEqual(vars(wanted), vars(found))
            else:
                self.assertTrue(found == wanted, name)
                self.assertEqual(kinds_of(found), kinds_of(wanted), name)

    def test_methods_by_name(self):
        network = Network(edges=[("e", "a", "b", (5, 1), [0])], nodes=["a", "b"], watch=3, modulus=12)
        self.assert_exactly(network.edge(name="e"), ("a", "b", (5, 1), (0,)))
        session = Session(state=("a", 0), network=network)
        for method, argument in ((session.take, {"step": ("e", "forward")}), (session.jump, {"path": [[("e", "backward")]]}),
                                 (session.remove, {"name": "e"})):
            self.assertIsNone(method(**argument))
        self.assertEqual(session.reach(state=("a", 0)), [[]])
        self.assertEqual([session.state(after=1), session.network(after=2).nodes()], [("b", 1), ["a", "b"]])

    def test_without_optional_arguments(self):
        self.assertEqual(len(expand([[("g", "forward")], [(0, 1000)]])), 1000)
        with self.assertRaises(TooLong) as caught:
            expand([[("g", "forward")], [(0, 1001)]])
        self.assertEqual(caught.exception.limit, 1000)
        self.assertIs(sifts(12, 0, TOWER, (1, 9)), sifts(12, 0, TOWER, (1, 9), level=0))
        self.assertNotEqual(sifts(12, 0, TOWER, (1, 9)), sifts(12, 0, TOWER, (1, 9), level=1))
        self.assertEqual(period_certificate(8, (3, 1), 0), period_certificate(8, (3, 1), 0, divisor=8))
        self.assertNotEqual(period_certificate(8, (3, 1), 0), period_certificate(8, (3, 1), 0, divisor=2))
        session = example_session()
        self.assertEqual([session.state(), session.network() == session.network(after=1)], [("b", 7), True])


class OneMapTest(unittest.TestCase):
    """A network with one node and one edge that can always be taken, and the map of the edge."""

    def cases(self):
        for m in SMALL_MODULI[:7] + LARGE_MODULI:
            chosen = random.Random(m + 41)
            for f in structured_maps(m)[::5] + [random_map(m, chosen)]:
                yield m, f, chosen.randrange(m), Network(m, 1, ["a"], [("e", "a", "a", f, [0])]), chosen

    def test_orbits(self):
        for m, f, x, network, chosen in self.cases():
            state = ("a", x)
            self.assertEqual(count_reachable(network, state), period(m, f, x))
            self.assertEqual(home_order(network, state), order(m, f))
            self.assertEqual(group_order(m, [f]), order(m, f))
            for y in (x, iterate(m, f, x, 10 ** 40), chosen.randrange(m)):
                n = distance(m, f, x, y)
                self.assertIs(can_reach(network, state, ("a", y)), n is not None)
                self.assertIs(sifts_number(m, x, build_tower(m, x, [f]), y), n is not None)
                self.assertEqual(index_at(network, state, ("a", y)) is not None, n is not None)
                path = reach(network, state, ("a", y))
                self.assertEqual(path is not None, n is not None)
                if n is not None:
                    self.assertEqual(map_distance(m, f, compressed_map(network, state, path)) % period(m, f, x), n)
                    forward = [[("e", "forward")], [(0, n)] if n > 0 else []]
                    self.assertEqual(follow_compressed(network, state, forward), ("a", y))
                else:
                    found = distance_certificate(m, f, x, y)
                    self.assertEqual((y - iterate(m, f, x, found[4])) % found[1], 0)
                    self.assertEqual(separating_divisor(network, state, ("a", y)), found[1] * found[2])

    def test_groups(self):
        for m, f, x, network, chosen in self.cases():
            for g in (power(m, f, 10 ** 30 + 7), compose(m, f, (1, 1)), random_map(m, chosen)):
                self.assertIs(in_group(m, [f], g), map_distance(m, f, g) is not None)
                self.assertEqual(reach_by_map(network, ("a", x), ("a", 0), g) is not None, map_distance(m, f, g) is not None)
                self.assertEqual(commuting_index(m, f, g) is not None, compose(m, f, g) == compose(m, g, f))
                u = conjugator(m, f, g)
                self.assertEqual(u is not None and group_order(m, [f]) != group_order(m, [g]), False)
            self.assertEqual(commuting_count(m, f) % group_order(m, [f]), 0)

    def test_cycles(self):
        for m, f, x, network, _ in self.cases():
            self.assertIn(count_reachable(network, ("a", x)), [length for length, _ in cycles(m, f)])
            self.assertEqual(has_full_period(m, f), count_at(network, ("a", x), "a") == m)
            self.assertEqual(sum(length * many for length, many in cycles(m, f)), m)

    def test_relabelled_networks_and_maps(self):
        for m, f, x, network, chosen in self.cases():
            u = random_map(m, chosen)
            g = compose(m, compose(m, inverse(m, u), f), u)
            other = relabel(network, u)
            self.assertEqual(other.edge("e")[2], g)
            self.assertIsNotNone(conjugator(m, f, g))
            start = ("a", apply_map(m, u, x))
            self.assertEqual(count_reachable(other, start), count_reachable(network, ("a", x)))
            self.assertEqual([period(m, g, start[1]), order(m, g), cycles(m, g)], [period(m, f, x), order(m, f), cycles(m, f)])
            y = iterate(m, f, x, 12345)
            self.assertEqual(distance(m, g, start[1], apply_map(m, u, y)), distance(m, f, x, y))
            self.assertEqual(joint_distance(m, (f, x, y), (g, start[1], apply_map(m, u, y))), distance(m, f, x, y))


class AgreementTest(unittest.TestCase):
    def networks(self):
        for network in small_networks(81, 25) + large_networks()[::2] + large_networks()[-1:]:
            chosen = random.Random(network.modulus() + 43)
            state = some_states(network, 1)[-1]
            others = [walk(network, state, chosen, 9)[-1], (chosen.choice(network.nodes()), chosen.randrange(network.modulus()))]
            yield network, state, others, chosen

    def test_all_answers_about_two_states(self):
        kinds = set()
        for network, state, others, _ in self.networks():
            value = exclusion(network, state)
            for other in others + [state]:
                reached = can_reach(network, state, other)
                kinds.add((reached, same_part(network, state, other)))
                path, index = reach(network, state, other), index_at(network, state, other)
                session = Session(network, state)
                self.assertEqual([path is not None, index is not None, not excludes(network, state, value, other),
                                  separating_divisor(network, state, other) is None, can_reach(network, other, state),
                                  session.reach(other) is not None, blocking_certificate(network, state, other, [])[0] == "open"], [reached] * 7)
                self.assertIs(same_part(network, state, other), class_of(network, other) in part(network, state))
                if reached:
                    self.assertEqual(reachable_at(network, state, other[0], index), other[1])
                    session.jump(path)
                    self.assertEqual(session.state(), other)
                    self.assertTrue(parse_session(format_session(session)) == session)
                    self.assertEqual(session.count_reachable(), count_reachable(network, state))
                    self.assertIs(is_accepted(network, other, session.exclusion()), True)
                    self.assertIs(accepts_blocking(network, state, other, [], ("open", path)), True)
                    self.assertEqual(follow_compressed(network, other, reverse_compressed(path)), state)
                    self.assertEqual(follow_compressed(network, state, join_compressed(path, reverse_compressed(path))), state)
                    again = reach_by_map(network, state, class_of(network, other), compressed_map(network, state, path))
                    self.assertEqual(follow_compressed(network, state, again), other)
                    if step_count(path) <= 1000:
                        self.assertEqual(follow(network, state, expand(path))[-1], other)
                else:
                    self.assertIs(accepts_blocking(network, state, other, [], ("blocks", value)), True)
                    self.assertIn(separating_divisor(network, state, other), chain(network.modulus()))
                    self.assertIsNone(reach_by_map(network, state, class_of(network, other), (1, (other[1] - state[1]) % network.modulus())))
        self.assertEqual(kinds, {(True, True), (False, True), (False, False)})

    def test_counts_and_groups(self):
        for network, state, others, _ in self.networks():
            m = network.modulus()
            maps = [path_map(network, state, path) for path in loops(network, state)]
            entries, tower = exclusion(network, state)
            self.assertEqual([place for place, _ in entries], part(network, state))
            self.assertEqual(home_order(network, state), group_order(m, maps))
            self.assertEqual(sum(count_at(network, state, node) for node in network.nodes()), count_reachable(network, state))
            images = 1
            for level in tower[:len(tower) // 2]:
                images *= len(level)
            self.assertEqual(count_reachable(network, state), images * len(part(network, state)))
            self.assertEqual(home_order(network, state) % images, 0)
            for place, path in list(tree_paths(network, state).items())[::50]:
                f = path_map(network, state, path)
                self.assertEqual(dict(entries)[place] == f or in_group(m, maps, compose(m, dict(entries)[place], inverse(m, f))), True)

    def test_networks_that_were_asked_before_answer_like_new_ones(self):
        for network, state, others, _ in self.networks():
            for other in others + [state, others[0]]:
                fresh = Network(network.modulus(), network.watch(), network.nodes(), network.edges())
                for function in (part, loops, tree_paths, exclusion, count_reachable, home_order):
                    self.assertEqual(function(network, other), function(fresh, other))
                for function in (reach, index_at, separating_divisor, can_reach):
                    self.assertEqual(function(network, other, state), function(fresh, other, state))

    def test_edits_one_after_the_other(self):
        for network, state, others, chosen in self.networks():
            m = network.modulus()
            if len(network.nodes()) > 7 or len(network.edges()) > 22 or network.edges() == []:
                continue
            name = chosen.choice(network.edges())[0]
            u = random_map(m, chosen)
            halves = subdivide(network, name, "newnode", "newedge", u)
            turned = reverse_edge(halves, "newedge")
            other = rename(relabel(turned, u), {"newnode": "n", name: "x"})
            start = (state[0], apply_map(m, u, state[1]))
            for end in others:
                self.assertEqual(can_reach(other, start, (end[0], apply_map(m, u, end[1]))), can_reach(network, state, end))
            for node in network.nodes():
                self.assertEqual(count_at(other, start, node), count_at(network, state, node))
            self.assertLessEqual(count_reachable(remove_edge(other, "x"), start), count_reachable(other, start))
            self.assertTrue(remove_edge(change_map(network, name, u), name) == remove_edge(network, name))

    def test_united_networks_of_one_map(self):
        for m in (12, 10 ** 9, 13 ** 8):
            chosen = random.Random(m)
            f, g, h = random_map(m, chosen), random_map(m, chosen), random_map(m, chosen)
            one, other = Network(m, 1, ["a"], [("e", "a", "a", f, [0])]), Network(m, 1, ["b"], [("g", "b", "b", g, [0])])
            both = unite(one, other, ("k", "a", "b", h, [0]))
            self.assertEqual(home_order(both, ("a", 5)), group_order(m, [f, compose(m, compose(m, h, g), inverse(m, h))]))
            self.assertEqual(home_order(both, ("b", 5)), home_order(both, ("a", 5)))
            self.assertEqual(count_at(both, ("a", 5), "a"), count_at(both, ("a", 5), "b"))

    def test_small_networks_with_all_states(self):
        for network in small_networks(82, 12):
            for state in all_states(network)[::4]:
                found = {other for other in all_states(network) if can_reach(network, state, other)}
                for node in network.nodes():
                    listed = {(node, reachable_at(network, state, node, k)) for k in range(count_at(network, state, node))}
                    self.assertEqual(listed, {other for other in found if other[0] == node})


if __name__ == "__main__":
    unittest.main()
