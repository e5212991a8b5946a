import random
import unittest

from affinewalk.compressed import follow_compressed, reverse_compressed
from affinewalk.counts import count_reachable
from affinewalk.edits import remove_edge
from affinewalk.errors import InvalidPath, InvalidStep, NothingLeft, OutOfRange, UnknownName
from affinewalk.exclusions import exclusion, is_accepted
from affinewalk.networks import Network
from affinewalk.paths import steps, take_step
from affinewalk.reach import can_reach, reach
from affinewalk.sessions import Session
from tests.literal import distances, large_networks, small_networks
from tests.support import KeepsArguments, Text, any_values, first_network, kinds_of
from tests.test_edits import edits_network

E, G = ("e", "forward"), ("g", "forward")


def example_session():
    session = Session(edits_network(), ("a", 0))
    session.take(E)
    return session


class Model:
    """What point 34 says, worked out anew from the list of actions each time."""

    def __init__(self, network, state):
        self.first = (network, state)
        self.actions = []
        self.undone = []

    def after(self, count):
        network, state = self.first
        for word, what in self.actions[:count]:
            if word == "step":
                state = take_step(network, state, what)
            elif word == "jump":
                state = follow_compressed(network, state, what)
            else:
                network = remove_edge(network, what)
        return network, state


def random_action(session, chosen):
    """An action that mostly can be done, as a tuple (method, argument)."""
    network, state = session.network(), session.state()
    kind = chosen.random()
    if kind < 0.45:
        ways = steps(network, state) or [("nowhere", "forward")]
        return "take", chosen.choice(ways + [("e", "sideways"), ("eb", "forward"), None] * (chosen.random() < 0.2))
    if kind < 0.85:
        other = (chosen.choice(network.nodes()), chosen.randrange(network.modulus()))
        path = reach(network, state, other) or reach(network, state, state)
        if chosen.random() < 0.2:
            path = path + [[(len(path) - 1, chosen.choice([-1, 2, 10 ** 18]))]]
        return "jump", path
    names = [edge[0] for edge in network.edges()] + ["nowhere", None, network.nodes()[0]]
    return "remove", chosen.choice(names)


class SessionsTest(KeepsArguments, unittest.TestCase):
    def assert_raises(self, error, fields, function, *arguments, **more):
        with self.assertRaises(error, msg=fields) as caught:
            function(*arguments, **more)
        self.assert_exactly(list(vars(caught.exception).values()), fields)

    def test_examples(self):
        session = example_session()
        self.assertIsNone(session.take(G))
        self.assert_exactly(session.undo(), ("step", G))
        self.assert_exactly(session.redo(), ("step", G))
        self.assert_exactly(session.state(), ("b", 10))
        session = example_session()
        self.assert_exactly(session.state(after=0), ("a", 0))
        self.assert_raises(OutOfRange, [2], session.state, after=2)

    def test_by_name(self):
        session = Session(state=("a", 0), network=edits_network())
        session.take(step=E)
        session.jump(path=[[G]])
        session.remove(name="e")
        self.assertEqual(session.state(after=None), ("b", 10))
        self.assertTrue(session.network(after=0) == edits_network())
        self.assertEqual(session.reach(state=("b", 10)), session.reach(("b", 10)))
        for function in (session.network, session.state):
            with self.assertRaises(TypeError):
                function(0)

    def test_random_sessions_as_the_document_says(self):
        done = {"take": 0, "jump": 0, "remove": 0, "undo": 0, "redo": 0, "error": 0}
        for network in small_networks(61, 60) + [first_network(), edits_network()]:
            chosen = random.Random(network.modulus() + done["take"])
            state = (chosen.choice(network.nodes()), chosen.randrange(network.modulus()))
            session, model = Session(network, state), Model(network, state)
            for _ in range(30):
                self.one_turn(session, model, chosen, done)
                self.assert_like(session, model, chosen)
        self.assertGreater(min(done.values()), 60)

    def one_turn(self, session, model, chosen, done):
        kind = chosen.random()
        if kind < 0.2 and model.actions:
            model.undone.append(model.actions.pop())
            self.assert_exactly(session.undo(), model.undone[-1])
            done["undo"] += 1
        elif kind < 0.4 and model.undone:
            model.actions.append(model.undone.pop())
            self.assert_exactly(session.redo(), model.actions[-1])
            done["redo"] += 1
        else:
            method, argument = random_action(session, chosen)
            action = {"take": session.take, "jump": session.jump, "remove": session.remove}[method]
            try:
                self.assertIsNone(self.call(action, argument))
            except (InvalidStep, InvalidPath, UnknownName):
                done["error"] += 1
                return
            model.actions.append(({"take": "step"}.get(method, method), argument))
            model.undone = []
            done[method] += 1

    def assert_like(self, session, model, chosen):
        many = len(model.actions)
        self.assert_exactly(session.actions(), model.actions)
        for k in {None, 0, many, chosen.randint(0, many)}:
            network, state = model.after(many if k is None else k)
            self.assert_exactly(session.state(after=k), state)
            self.assertTrue(session.network(after=k) == network)
        network, state = model.after(many)
        self.assert_exactly(session.state(), state)
        self.assertTrue(session.network() == network)
        self.assert_raises(OutOfRange, [many + 1], session.network, after=many + 1)
        self.assert_exactly(session.count_reachable(), len(distances(network, state)))
        other = (chosen.choice(network.nodes()), chosen.randrange(network.modulus()))
        self.assert_exactly(session.reach(other), reach(network, state, other))
        self.assert_exactly(session.exclusion(), exclusion(network, state))

    def test_moments_that_do_not_exist(self):
        session = example_session()
        session.remove("g")
        for value in any_values() + [2, 3, -1, 10 ** 18]:
            for function in (session.state, session.network):
                if value is None or (type(value) is int and 0 <= value <= 2):
                    function(after=value)
                else:
                    self.assert_raises(OutOfRange, [value], function, after=value)
        session.undo()
        self.assert_raises(OutOfRange, [2], session.state, after=2)
        self.assert_raises(OutOfRange, [1], Session(edits_network(), ("a", 0)).network, after=1)

    def test_steps_of_any_value(self):
        session = example_session()
        session.take(G)
        session.undo()
        for value in any_values() + [("e", "forward", 1), ["e", "forward"], ("e", "sideways"), ("E", "forward"), ("abcdefghi", "forward")]:
            self.assert_raises(InvalidStep, ["form"], session.take, value)
        for step, reason in ((("x", "forward"), "edge"), (("b", "forward"), "edge"), (E, "node"), (("e", "backward"), None),
                             (("g", "backward"), None)):
            if reason is not None:
                self.assert_raises(InvalidStep, [reason], session.take, step)
        self.assert_raises(InvalidStep, ["residue"], Session(edits_network(), ("a", 1)).take, E)
        self.assert_exactly(session.actions(), [("step", E)])
        self.assert_exactly(session.redo(), ("step", G))

    def test_names_of_any_value(self):
        session = example_session()
        session.take(G)
        session.undo()
        for value in any_values() + ["a", "b", "x", ("e",), ["e"]]:
            self.assert_raises(UnknownName, [value], session.remove, value)
        self.assert_exactly(session.redo(), ("step", G))
        session.remove("e")
        self.assert_raises(UnknownName, ["e"], session.remove, "e")
        self.assert_raises(InvalidStep, ["edge"], session.take, ("e", "backward"))
        self.assert_exactly(session.state(), ("b", 10))

    def test_jumps(self):
        session = example_session()
        session.take(G)
        session.undo()
        for path, fields in (([[E]], [0, "node"]), ([[G, E]], [1, "node"]), ([[G], [(0, 3), ("x", "forward")]], [1, "edge"]),
                             ([[E], [G, G, (0, 1)]], [2, "repetition"]), ([[("e", "backward")], [(0, 2)]], [0, "repetition"])):
            self.assert_raises(InvalidPath, fields, session.jump, path)
        self.assert_exactly(session.redo(), ("step", G))
        for path, state in (([[]], ("b", 10)), ([[G], [], []], ("b", 10)), ([[G], [(0, 10 ** 18)]], ("b", (10 + 3 * 10 ** 18) % 12)),
                            ([[G], [(0, -10 ** 18)]], ("b", 10)), ([[G]] * 1999 + [[(1998, 3), (0, -1), (7, 2)]], ("b", 10))):
            before = session.state()
            self.assertIsNone(self.call(session.jump, path))
            self.assertEqual(session.state(), follow_compressed(edits_network(), before, path))
            self.assert_exactly(session.actions()[-1], ("jump", path))
            self.assertEqual(session.state()[0], state[0])
        self.assertEqual(len(session.actions()), 7)

    def test_nothing_left(self):
        session = Session(edits_network(), ("a", 0))
        self.assert_raises(NothingLeft, ["undo"], session.undo)
        self.assert_raises(NothingLeft, ["redo"], session.redo)
        session.take(E)
        self.assert_raises(NothingLeft, ["redo"], session.redo)
        session.undo()
        self.assert_raises(NothingLeft, ["undo"], session.undo)
        session.redo()
        self.assert_raises(NothingLeft, ["redo"], session.redo)
        session.undo()
        session.take(E)
        self.assert_raises(NothingLeft, ["redo"], session.redo)
        session.undo()
        session.remove("g")
        self.assert_raises(NothingLeft, ["redo"], session.redo)
        session.undo()
        session.jump([[]])
        self.assert_raises(NothingLeft, ["redo"], session.redo)

    def test_redo_stays_possible_after_questions_and_errors(self):
        session = example_session()
        session.take(G)
        session.remove("e")
        self.assert_exactly([session.undo(), session.undo()], [("remove", "e"), ("step", G)])
        session.state()
        session.network()
        session.actions()
        session.reach(("a", 0))
        session.exclusion()
        session.count_reachable()
        for function, argument in ((session.take, E), (session.jump, [[E]]), (session.remove, "x")):
            with self.assertRaises((InvalidStep, InvalidPath, UnknownName)):
                function(argument)
        self.assert_exactly([session.redo(), session.redo()], [("step", G), ("remove", "e")])
        self.assert_exactly(session.actions(), [("step", E), ("step", G), ("remove", "e")])

    def test_edges_that_are_removed_and_come_back(self):
        session = example_session()
        session.remove("e")
        session.take(G)
        self.assertEqual([edge[0] for edge in session.network().edges()], ["g"])
        self.assertEqual([edge[0] for edge in session.network(after=1).edges()], ["e", "g"])
        self.assertIsNone(session.reach(("a", 0)))
        session.undo()
        session.undo()
        self.assertTrue(session.network() == edits_network())
        self.assertIsNotNone(session.reach(("a", 0)))

    def test_equality(self):
        def made(*actions, network=None, state=("a", 0)):
            session = Session(network or edits_network(), state)
            for method, argument in actions:
                {"take": session.take, "jump": session.jump, "remove": session.remove}[method](argument)
            return session

        kinds = [made(), made(("take", E)), made(("jump", [[E]])), made(("take", E), ("remove", "g")), made(("remove", "g"), ("take", E)),
                 made(state=("a", 3)), made(network=remove_edge(edits_network(), "g")), made(("jump", [[E], []])),
                 made(("jump", [[G], [E]])), made(("take", E), ("take", G)), made(("remove", "g"))]
        for k, one in enumerate(kinds):
            for i, other in enumerate(kinds):
                self.assertIs(one == other, k == i)
                self.assertIs(one != other, k != i)
            for value in any_values() + [edits_network(), one.actions(), one.state(), one.network()]:
                self.assertIs(one == value, False)
                self.assertIs(value == one, False)
        for one in kinds:
            copy = made(*[({"step": "take"}.get(word, word), what) for word, what in one.actions()], network=one.network(after=0),
                        state=one.state(after=0))
            self.assertTrue(copy == one)
            copy.jump([[]])
            self.assertFalse(copy == one)
            copy.undo()
            self.assertTrue(copy == one)

    def test_changed_values_have_no_effect(self):
        network, rows = edits_network(), [[E], [(0, 1), G]]
        session = Session(network, ("a", 0))
        session.jump(rows)
        rows[0].clear()
        rows.append([G])
        wanted = [("jump", [[E], [(0, 1), G]])]
        self.assert_exactly(session.actions(), wanted)
        found = session.actions()
        found[0][1][0].clear()
        found[0][1].clear()
        found.clear()
        self.assert_exactly(session.actions(), wanted)
        undone = session.undo()
        undone[1][0].append(G)
        undone[1].pop()
        again = session.redo()
        self.assert_exactly(again, wanted[0])
        again[1].clear()
        self.assert_exactly(session.actions(), wanted)
        session.exclusion()[0].clear()
        session.reach(("b", 1)).clear()
        self.assertIs(is_accepted(network, session.state(), session.exclusion()), True)
        self.assertIsNot(session.network(), session.network())
        self.assertTrue(session.network() == edits_network())

    def test_kinds(self):
        session = Session(edits_network(), (Text("a"), 0))
        session.take((Text("e"), Text("forward")))
        session.jump([[(Text("g"), "forward")], [(0, 3)]])
        session.remove(Text("e"))
        self.assertEqual(kinds_of(session.actions()), kinds_of([("step", E), ("jump", [[G], [(0, 3)]]), ("remove", "e")]))
        for k in range(4):
            self.assertEqual(kinds_of(session.state(after=k)), (tuple, [str, int]))

    def test_large_networks(self):
        for network in large_networks()[::3] + large_networks()[-2:]:
            m = network.modulus()
            chosen = random.Random(m + 31)
            state = (network.nodes()[0], chosen.randrange(m))
            session, model = Session(network, state), Model(network, state)
            for _ in range(8):
                self.one_turn(session, model, chosen, {"take": 0, "jump": 0, "remove": 0, "undo": 0, "redo": 0, "error": 0})
            self.assert_exactly(session.actions(), model.actions)
            for k in range(len(model.actions) + 1):
                network, state = model.after(k)
                self.assert_exactly(session.state(after=k), state)
                self.assertTrue(session.network(after=k) == network)
            self.assertEqual(session.count_reachable(), count_reachable(network, state))
            other = (network.nodes()[-1], chosen.randrange(m))
            self.assertEqual(session.reach(other) is not None, can_reach(network, state, other))
            path = session.reach(session.state(after=0))
            if path is not None:
                session.jump(path)
                self.assertEqual(session.state(), session.state(after=0))
                session.jump(reverse_compressed(path))
                self.assertEqual(session.state(), state)


if __name__ == "__main__":
    unittest.main()
