import random
import unittest

from affinewalk.compressed import (compressed_map, expand, follow_compressed, is_compressed, join_compressed,
                                   reverse_compressed, step_count)
from affinewalk.errors import InvalidPath, InvalidStep, TooLong
from affinewalk.maps import apply_map, compose, inverse, power
from affinewalk.networks import Network
from affinewalk.orbits import distance, order, period
from affinewalk.paths import follow, path_map, reverse_path, steps, take_step
from affinewalk.points import index_through
from affinewalk.states import class_of
from tests.support import (KeepsArguments, Number, Row, Text, any_values, first_network, largest_parts, random_parts,
                           variations)

G, BACK = ("g", "forward"), ("g", "backward")
E, F = ("e", "forward"), ("f", "forward")
OTHER = {"forward": "backward", "backward": "forward"}


# What points 20 and 21 say, without any memory of what has been found before.

def is_step(value):
    return (type(value) is tuple and len(value) == 2 and type(value[0]) is str and 1 <= len(value[0]) <= 8
            and set(value[0]) <= set("abcdefghijklmnopqrstuvwxyz") and type(value[1]) is str and value[1] in OTHER)


def is_repetition(value, index):
    return (type(value) is tuple and len(value) == 2 and type(value[0]) is int and type(value[1]) is int
            and 0 <= value[0] < index and value[1] != 0 and -10 ** 18 <= value[1] <= 10 ** 18)


def holds_compressed(value):
    """Point 20; for paths that are not deep."""
    if type(value) is not list or not 1 <= len(value) <= 2000:
        return False
    return all(type(row) is list and len(row) <= 200 and all(is_step(item) or is_repetition(item, k) for item in row)
               for k, row in enumerate(value))


def turned(row):
    return [(name, OTHER[rest]) if rest in OTHER else (name, -rest) for name, rest in row[::-1]]


def plain(path, row):
    """The plain path of a row, a list of steps."""
    found = []
    for first, rest in row:
        if rest in OTHER:
            found.append((first, rest))
        else:
            found.extend(plain(path, path[first] if rest > 0 else turned(path[first])) * abs(rest))
    return found


def end_of(network, place, path, row):
    """The class in which a row ends, or (index, reason) in a list for the first item that cannot be followed."""
    for index, (first, rest) in enumerate(row):
        if rest in OTHER:
            try:
                place = class_of(network, take_step(network, place, (first, rest)))
            except InvalidStep as error:
                return [index, error.reason]
        else:
            end = end_of(network, place, path, path[first] if rest > 0 else turned(path[first]))
            if isinstance(end, list) or (abs(rest) != 1 and end != place):
                return [index, "repetition"]
            place = end
    return place


def random_row(network, path, chosen):
    """A row that mostly can be followed from some class."""
    place = (chosen.choice(network.nodes()), chosen.randrange(network.watch()))
    row = []
    for _ in range(chosen.choice([0, 1, 2, 3, 5])):
        items = list(steps(network, place)) * 2
        for index in range(max(0, len(path) - 3), len(path)):
            items += [(index, e) for e in (1, -1, 2, -3) if not isinstance(end_of(network, place, path, [(index, e)]), list)]
        if items == [] or chosen.random() < 0.05:
            items = [("nowhere", "forward")] + [(edge[0], chosen.choice(list(OTHER))) for edge in network.edges()]
            items += [(len(path) - 1, chosen.choice([-2, -1, 1, 2]))] if path else []
        row.append(chosen.choice(items))
        end = end_of(network, place, path, row[-1:])
        place = place if isinstance(end, list) else end
    return row


def random_compressed(network, chosen):
    path = []
    for _ in range(chosen.choice([1, 2, 3, 5, 7])):
        path.append(random_row(network, path, chosen))
    return path


def networks():
    found = [first_network(), Network(2, 1, ["a"], [("e", "a", "a", (1, 1), [0])]), Network(*largest_parts()),
             Network(6, 6, ["a", "b"], [("e", "a", "b", (5, 2), [0, 3, 5]), ("f", "a", "b", (1, 2), [1, 3, 4]),
                                        ("g", "b", "a", (1, 3), []), ("h", "b", "b", (1, 1), [0, 1, 2, 3, 4, 5])])]
    for seed in range(40):
        parts = random_parts(seed)
        if len(parts[3]) > 1:
            found.append(Network(*parts))
    return found


def doubled(first, times):
    """The row, and rows that each follow the row before twice."""
    path = [first]
    for index in range(times):
        path.append([(index, 2)] if index % 2 == 0 else [(index, 1), (index, 1)])
    return path


def of_depth(depth):
    return [[G]] + [[(index, 1)] for index in range(depth)]


class IsCompressedTest(KeepsArguments, unittest.TestCase):
    def test_examples(self):
        self.assert_exactly([is_compressed([[G], [(0, 3)]]), is_compressed([[(0, 3)]]), is_compressed([])], [True, False, False])

    def test_by_name(self):
        self.assertIs(is_compressed(value=[[G]]), True)

    def test_compressed_paths(self):
        for value in ([[]], [[], []], [[G]], [[("zzzzzzzz", "backward")]], [[G], [(0, -1)]], [[], [(0, 10 ** 18)]],
                      [[], [(0, -10 ** 18)]], [[G], [(0, 1), G, (0, 1)], [(1, 2), (0, 7)]], [[G] * 200], [[]] * 2000,
                      doubled([G], 100), of_depth(200)):
            self.assertIs(self.call(is_compressed, value), True)

    def test_limits(self):
        self.assertIs(is_compressed([[G] * 200, [(0, 1)] * 200]), True)
        self.assert_false_for(is_compressed, [[G] * 201])
        self.assert_false_for(is_compressed, [[G], [(0, 1)] * 201])
        self.assertIs(is_compressed([[G] for _ in range(2000)]), True)
        self.assert_false_for(is_compressed, [[G] for _ in range(2001)])
        self.assertIs(is_compressed(of_depth(200)), True)
        self.assert_false_for(is_compressed, of_depth(201))
        self.assert_false_for(is_compressed, of_depth(201) + [[G]])
        self.assertIs(is_compressed(of_depth(200) + [[(199, 1), (3, 1)], [G]]), True)
        self.assert_false_for(is_compressed, of_depth(200) + [[(3, 1), (200, 1)], [G]])
        for exponent in (10 ** 18 + 1, -10 ** 18 - 1, 10 ** 99, -10 ** 99, 0):
            self.assert_false_for(is_compressed, [[G], [(0, exponent)]])

    def test_wrong_values(self):
        wrong = [
            [[(0, 1)]], [[], [(1, 1)]], [[], [(2, 1)], []], [[], [(-1, 1)]], [[], [(0, 0)]], [[], [(0, True)]], [[], [(False, 1)]],
            [[], [(0, None)]], [[], [(0, "1")]], [[], [("0", 1)]], [[], [(0, "forward")]], [[], [("g", 1)]], [[], [[0, 1]]],
            [[], [(0, 1, 1)]], [[], [(0,)]], [[], [0, 1]], [[], [()]], [[], [(0, (1,))]], [[], [((0,), 1)]], [[], [(10 ** 99, 1)]],
            [[], (0, 1)], [[], ((0, 1),)], ([],), ([G],), [(G,)], [G], G, [[[G]]], [[["g", "forward"]]], [[("g",)]],
            [[("g", "forward", 1)]], [[("G", "forward")]], [[("", "forward")]], [[("abcdefghi", "forward")]], [[("g", "Forward")]],
            [[("g", "up")]], [[("g ", "forward")]], [["g forward"]], ["g forward"], "g forward", [None], [[None]], [[], None],
            [{}], [[{}]], [{0: G}], {0: [G]}, {}, [[True]], [True], [0], [[G], G], [[G], (0, 1)], [[G], [[(0, 1)]]],
        ]
        for value in any_values() + wrong:
            self.assert_false_for(is_compressed, value)
        for value in any_values():
            for path in ([value], [[G], [G, value]], [[G], [(0, value)]], [[G], [(value, 1)]], [[G], [(value, value)]]):
                self.assertIs(self.call(is_compressed, path), holds_compressed(path), path)

    def test_changed_paths(self):
        accepted = 0
        for path in ([[G], [(0, 3), E]], [[], [(0, 1)], [("ab", "backward"), (1, -2), (0, 10 ** 18)]], [[("abcdefgh", "forward")]]):
            for value in variations(path):
                self.assertIs(is_compressed(value), holds_compressed(value), value)
                accepted += is_compressed(value)
        self.assertGreater(accepted, 20)


class PlainPathTest(KeepsArguments, unittest.TestCase):
    def assert_too_long(self, path, limit):
        with self.assertRaises(TooLong) as caught:
            self.call(lambda rows: expand(rows, limit=limit), path)
        self.assert_exactly(caught.exception.limit, limit)

    def test_examples(self):
        path = [[G, ("e", "backward")], [(0, -1), G]]
        self.assert_exactly(expand(path), (E, BACK, G))
        self.assert_too_long([[G], [(0, 1000000)]], 5)

    def test_by_name(self):
        self.assertEqual(step_count(path=[[G], [(0, 7)]]), 7)
        self.assertEqual(expand(path=[[G], [(0, 2)]], limit=2), (G, G))
        self.assertRaises(TypeError, expand, [[G]], 5)

    def test_ordinary_paths(self):
        lengths = set()
        for network in networks():
            chosen = random.Random(network.modulus())
            for _ in range(12):
                path = random_compressed(network, chosen)
                self.assertIs(is_compressed(path), True)
                wanted = tuple(plain(path, path[-1]))
                lengths.add(len(wanted))
                self.assert_exactly(self.call(step_count, path), len(wanted))
                self.assert_exactly(expand(path, limit=10 ** 6), wanted)
                self.assert_exactly(expand(path, limit=len(wanted)), wanted)
                if wanted != ():
                    self.assert_too_long(path, len(wanted) - 1)
                    self.assert_too_long(path, 0)
        self.assertGreater(len(lengths), 20)
        self.assertGreater(max(lengths), 60)

    def test_edges(self):
        for path in ([[]], [[G], []], [[], [(0, 10 ** 18)]], [[], [(0, -10 ** 18), (0, 5)], [(1, 10 ** 18)] * 200]):
            self.assert_exactly(self.call(step_count, path), 0)
            self.assert_exactly([expand(path), expand(path, limit=0)], [(), ()])
        self.assert_exactly(expand([[G], [(0, -1)], [(1, -3)]]), (G, G, G))
        self.assert_exactly(expand([[G, E], [(0, -2)], [(1, -1), (1, 1)]]),
                            (G, E, G, E, ("e", "backward"), BACK, ("e", "backward"), BACK))
        self.assert_exactly(len(expand([[G], [(0, 1000)]])), 1000)
        self.assert_too_long([[G], [(0, 1000), G]], 1000)
        with self.assertRaises(TooLong) as caught:
            expand([[G], [(0, 1001)]])
        self.assert_exactly(caught.exception.limit, 1000)
        self.assert_too_long([[G], [(0, 10 ** 18)]], 10 ** 18 - 1)

    def test_long_paths_are_counted_exactly(self):
        for times in (10, 80, 123, 200):
            path = doubled([G, G, E], times)
            self.assert_exactly(step_count(path), 3 * 2 ** times)
            self.assert_too_long(path, 3 * 2 ** times - 1)
        path = [[G] * 200] + [[(index, (-1) ** index * 10 ** 18)] * 200 for index in range(200)]
        self.assert_exactly(step_count(path), 200 * (200 * 10 ** 18) ** 200)
        self.assert_exactly(step_count(path + [[G]]), 1)
        self.assert_exactly(expand(path + [[(0, -1), G]]), (BACK,) * 200 + (G,))
        self.assertEqual(expand(doubled([G], 12), limit=4096), (G,) * 4096)

    def test_rows_that_are_not_needed_are_not_expanded(self):
        path = doubled([G], 199) + [[E], [], [(200, 3), (201, 10 ** 18)], [(202, -2), (0, 1)]]
        self.assert_exactly(expand(path), (("e", "backward"),) * 6 + (G,))

    def test_deep_paths(self):
        self.assert_exactly(expand(of_depth(200)), (G,))
        self.assert_exactly(step_count(of_depth(200)), 1)
        path = [[G, E]] + [[(index, -1)] for index in range(199)]
        self.assert_exactly(expand(path), (("e", "backward"), BACK))

    def test_lists_of_two_thousand_rows(self):
        path = [[G, (0, 1)] if index else [E] for index in range(1999)] + [[(index, 1) for index in range(1800, 2000 - 1)]]
        self.assertEqual(step_count(path), 398)
        self.assertEqual(expand(path), (G, E) * 199)

    def test_derived_kinds_give_plain_results(self):
        path = [[Row((Text("g"), Text("forward")))], [Row((Number(0), Number(-2))), Row((Text("e"), Text("backward")))]]
        self.assert_exactly(expand(path), (BACK, BACK, ("e", "backward")))
        self.assert_exactly(step_count(path), 3)
        self.assert_exactly(reverse_compressed(path), [[G], [(0, -2), ("e", "backward")], [(1, -1)]])
        self.assert_exactly(join_compressed(path, path)[2:], [[G], [(2, -2), ("e", "backward")], [(1, 1), (3, 1)]])
        state = Row((Text("a"), Number(0)))
        self.assert_exactly(follow_compressed(first_network(), state, path[:1]), ("a", 3))
        self.assert_exactly(follow_compressed(first_network(), state, [[]]), ("a", 0))
        self.assert_exactly(compressed_map(first_network(), state, path[:1]), (1, 3))


class JoinTest(KeepsArguments, unittest.TestCase):
    def assert_too_long(self, function, *paths, limit):
        with self.assertRaises(TooLong) as caught:
            self.call(function, *paths)
        self.assert_exactly(caught.exception.limit, limit)

    def test_examples(self):
        wanted = [[G], [E], [(1, -2)], [(0, 1), (2, 1)]]
        self.assert_exactly(join_compressed([[G]], [[E], [(0, -2)]]), wanted)

    def test_by_name(self):
        self.assertEqual(reverse_compressed(path=[[G]]), [[G], [(0, -1)]])
        self.assertEqual(join_compressed(second=[[E]], first=[[G]]), [[G], [E], [(0, 1), (1, 1)]])

    def test_rows_and_plain_paths(self):
        for network in networks()[:25]:
            chosen = random.Random(network.modulus())
            for _ in range(6):
                first, second = random_compressed(network, chosen), random_compressed(network, chosen)
                back = self.call(reverse_compressed, first)
                self.assert_exactly(back, first + [[(len(first) - 1, -1)]])
                self.assert_exactly(expand(back, limit=10 ** 6), reverse_path(plain(first, first[-1])))
                both = self.call(join_compressed, first, second)
                moved = [[(name, rest) if rest in OTHER else (name + len(first), rest) for name, rest in row] for row in second]
                last = [(len(first) - 1, 1), (len(first) + len(second) - 1, 1)]
                self.assert_exactly(both, first + moved + [last])
                self.assertIs(is_compressed(both), True)
                self.assertEqual(list(expand(both, limit=10 ** 6)), plain(first, first[-1]) + plain(second, second[-1]))
                self.assertEqual(step_count(both), step_count(first) + step_count(second))

    def test_new_lists(self):
        first, second = [[G], [(0, 2)]], [[E], [(0, -3)]]
        for result in (reverse_compressed(first), join_compressed(first, second), join_compressed(first, first)):
            for row in result:
                row.append(None)
                row.clear()
            result.clear()
        self.assertEqual((first, second), ([[G], [(0, 2)]], [[E], [(0, -3)]]))
        both = join_compressed(first, first)
        both[0].append(G)
        self.assertEqual(both, [[G, G], [(0, 2)], [G], [(2, 2)], [(1, 1), (3, 1)]])

    def test_too_many_rows(self):
        self.assertEqual(len(reverse_compressed([[G]] * 1999)), 2000)
        self.assert_too_long(reverse_compressed, [[G]] * 2000, limit=2000)
        self.assertEqual(len(join_compressed([[G]] * 1000, [[G]] * 999)), 2000)
        self.assert_too_long(join_compressed, [[G]] * 1000, [[G]] * 1000, limit=2000)
        self.assert_too_long(join_compressed, [[G]] * 2000, [[G]] * 2000, limit=2000)
        self.assert_too_long(join_compressed, [[G]] * 1999, [[G]], limit=2000)

    def test_too_deep(self):
        self.assertEqual(len(reverse_compressed(of_depth(199))), 201)
        self.assert_too_long(reverse_compressed, of_depth(200), limit=200)
        self.assertEqual(join_compressed(of_depth(199), [[]])[-1], [(199, 1), (200, 1)])
        self.assertEqual(join_compressed([[]], of_depth(199))[-1], [(0, 1), (200, 1)])
        self.assert_too_long(join_compressed, of_depth(200), [[]], limit=200)
        self.assert_too_long(join_compressed, [[]], of_depth(200), limit=200)
        self.assertEqual(reverse_compressed(of_depth(200) + [[E]])[-1], [(201, -1)])
        self.assertEqual(join_compressed(of_depth(200) + [[E]], of_depth(200) + [[E]])[-1], [(201, 1), (403, 1)])

    def test_rows_come_before_depth(self):
        deep = [[G]] * 1799 + of_depth(200)
        deep[1800:] = [[(index, 1)] for index in range(1799, 1999)]
        self.assertIs(is_compressed(deep), True)
        self.assertEqual(len(deep), 2000)
        self.assert_too_long(reverse_compressed, deep, limit=2000)
        self.assert_too_long(join_compressed, deep, [[]], limit=2000)
        self.assert_too_long(join_compressed, [[]], deep, limit=2000)


class FollowTest(KeepsArguments, unittest.TestCase):
    def assert_invalid(self, network, state, path, index, reason):
        for function in (follow_compressed, compressed_map):
            with self.assertRaises(InvalidPath, msg=(state, path)) as caught:
                self.call(function, network, state, path)
            self.assert_exactly((caught.exception.index, caught.exception.reason), (index, reason))

    def test_examples(self):
        network = first_network()
        self.assert_exactly(follow_compressed(network, ("a", 0), [[G], [(0, 999999999999999999), E]]), ("b", 1))
        self.assert_invalid(network, ("a", 0), [[E], [G, (0, 2)]], 1, "repetition")
        self.assert_exactly(compressed_map(network, ("a", 0), [[G], [(0, 3), E, F]]), (5, 5))

    def test_by_name(self):
        self.assertEqual(follow_compressed(path=[[G]], state=("a", 0), network=first_network()), ("a", 3))
        self.assertEqual(compressed_map(path=[[G]], state=("a", 0), network=first_network()), (1, 3))

    def test_random_paths_as_the_document_says(self):
        followed, refused = 0, []
        for network in networks():
            m, watch = network.modulus(), network.watch()
            chosen = random.Random(m)
            for _ in range(20):
                path = random_compressed(network, chosen)
                for place in [(node, r) for node in network.nodes()[:3] for r in range(min(watch, 4))]:
                    x = place[1] + watch * chosen.randrange(m // watch)
                    state = (place[0], x)
                    end = end_of(network, place, path, path[-1])
                    if isinstance(end, list):
                        self.assert_invalid(network, state, path, *end)
                        refused.append(end[1])
                        continue
                    followed += len(path[-1]) > 0
                    wanted = plain(path, path[-1])
                    self.assert_exactly(self.call(follow_compressed, network, state, path), follow(network, state, wanted)[-1])
                    f = self.call(compressed_map, network, state, path)
                    self.assert_exactly(f, path_map(network, state, wanted))
                    back, both = reverse_compressed(path), join_compressed(path, reverse_compressed(path))
                    arrival = follow_compressed(network, state, path)
                    self.assertEqual(follow_compressed(network, arrival, back), state)
                    self.assertEqual(compressed_map(network, arrival, back), inverse(m, f))
                    self.assertEqual(follow_compressed(network, state, both), state)
                    self.assertEqual(compressed_map(network, state, both), (1, 0))
        self.assertGreater(followed, 300)
        self.assertEqual(set(refused), {"edge", "node", "residue", "repetition"})
        self.assertGreater(min(refused.count(reason) for reason in set(refused)), 10)

    def test_first_item_that_cannot_be_followed(self):
        network, state = first_network(), ("a", 0)
        for before in ([], [G], [G, (0, 4), BACK], [(0, 10 ** 18), (0, -1)]):
            rows = [[G], [E, F, F], [E], [("nowhere", "forward")], [G, ("f", "backward")], [E, (0, 1)]]
            for item, reason in ((("nowhere", "forward"), "edge"), (F, "node"), (("e", "backward"), "node"), ((2, 2), "repetition"),
                                 ((2, -1), "repetition"), ((3, 1), "repetition"), ((4, 1), "repetition"), ((5, 1), "repetition")):
                for rest in ([], [G, G], [("nowhere", "forward"), (3, 5)]):
                    self.assert_invalid(network, state, rows + [before + [item] + rest], len(before), reason)
        self.assert_invalid(network, ("a", 1), [[G]], 0, "residue")
        self.assert_invalid(network, ("a", 0), [[E, F, G]], 2, "residue")
        self.assert_invalid(network, ("a", 1), [[G], [(0, 1)]], 0, "repetition")
        self.assert_invalid(network, ("b", 0), [[G], [(0, -7)]], 0, "repetition")

    def test_repetition_that_ends_in_another_class(self):
        network, state = first_network(), ("a", 0)
        for exponent in (2, 3, -2, 10 ** 18, -10 ** 18):
            self.assert_invalid(network, state, [[E, F], [G, (0, exponent)]], 1, "repetition")
        self.assert_exactly(follow_compressed(network, state, [[E, F], [(0, 1)]]), ("a", 8))
        self.assert_exactly(follow_compressed(network, ("a", 8), [[E, F], [(0, -1)]]), ("a", 0))
        self.assert_exactly(follow_compressed(network, state, [[E, F], [(0, 1), (0, -1)], [(1, 9)]]), state)
        turns = Network(6, 6, ["b"], [("h", "b", "b", (1, 1), [0, 1, 2, 3, 4, 5])])
        step = ("h", "forward")
        self.assertEqual(follow(turns, ("b", 1), [step] * 12)[-1], ("b", 1))
        self.assert_invalid(turns, ("b", 1), [[step], [(0, 12)]], 0, "repetition")
        self.assert_invalid(turns, ("b", 1), [[step], [(0, 1), (0, 1), (0, 2)]], 2, "repetition")
        self.assertEqual(follow_compressed(turns, ("b", 1), [[step] * 6, [(0, 10 ** 18)]]), ("b", 1))
        self.assertEqual(follow_compressed(turns, ("b", 1), [[step] * 3, [(0, 1), (0, 1)], [(1, -5), (0, 1)]]), ("b", 4))

    def test_rows_that_are_not_followed_are_not_asked(self):
        network = first_network()
        path = [[("nowhere", "forward")], [G], [(0, 5)], [(1, 2)]]
        self.assertEqual(follow_compressed(network, ("a", 0), path), ("a", 6))
        self.assertEqual(compressed_map(network, ("a", 0), path), (1, 6))

    def test_rows_without_items(self):
        for network in networks()[:10]:
            for node in network.nodes():
                state = (node, network.modulus() - 1)
                for path in ([[]], [[G], []], [[], [(0, 10 ** 18)]], [[], [(0, -10 ** 18)] * 200, [(1, 10 ** 18), (0, -1)]]):
                    self.assert_exactly(self.call(follow_compressed, network, state, path), state)
                    self.assert_exactly(self.call(compressed_map, network, state, path), (1, 0))

    def test_rows_that_follow_the_row_before_twice(self):
        for m in (12, 998400000, 3 * 13 ** 7):
            network = Network(m, 3, ["a"], [("g", "a", "a", (1, 3), [0, 1]), ("h", "a", "a", (7, 6), [0, 1])])
            for times in (1, 40, 80, 120, 199):
                for steps_of_row, f in (([G], (1, 3)), ([("h", "backward"), G], compose(m, inverse(m, (7, 6)), (1, 3)))):
                    wanted = power(m, f, 2 ** times)
                    path = doubled(steps_of_row, times)
                    self.assert_exactly(compressed_map(network, ("a", 4), path), wanted)
                    self.assert_exactly(follow_compressed(network, ("a", 4), path), ("a", apply_map(m, wanted, 4)))
                    self.assert_invalid(network, ("a", 5), path, 0, "repetition")

    def test_rows_that_change_the_class_each_time(self):
        m = 60 * 13 ** 6
        network = Network(m, 60, ["a"], [("g", "a", "a", (1, 1), list(range(60)))])
        path = [[G]] + [[(index, 1), (index, 1), G] for index in range(150)]
        count = 2 ** 151 - 1
        self.assertEqual(step_count(path), count)
        self.assert_exactly(compressed_map(network, ("a", 7), path), (1, count % m))
        self.assert_exactly(follow_compressed(network, ("a", 7), path), ("a", (7 + count) % m))
        self.assert_exactly(follow_compressed(network, ("a", 7), path + [[(150, -1)]]), ("a", (7 - count) % m))

    def test_deep_and_wide_paths(self):
        network = first_network()
        self.assert_exactly(follow_compressed(network, ("a", 0), of_depth(200)), ("a", 3))
        self.assert_exactly(compressed_map(network, ("a", 0), of_depth(200)), (1, 3))
        self.assert_invalid(network, ("a", 1), of_depth(200), 0, "repetition")
        wide = [[G] * 200] + [[(index, 10 ** 18)] * 200 for index in range(150)]
        self.assert_exactly(follow_compressed(network, ("a", 9), wide), ("a", 9))
        rows = [[G, BACK, G]] + [[(index // 2, (-1) ** index), G] for index in range(1999)]
        self.assertEqual(follow_compressed(network, ("a", 3), rows), follow(network, ("a", 3), expand(rows))[-1])

    def test_closed_paths_repeated(self):
        """The map of a repeated closed path is the power of its map, and leads on as the orbits of the map say."""
        count = 0
        for network in networks():
            m, watch = network.modulus(), network.watch()
            chosen = random.Random(m)
            for _ in range(30):
                path = random_compressed(network, chosen)
                place = (chosen.choice(network.nodes()), chosen.randrange(watch))
                if end_of(network, place, path, path[-1]) != place:
                    continue
                x = place[1] + watch * chosen.randrange(m // watch)
                f, last = compressed_map(network, (place[0], x), path), len(path) - 1
                for e in (1, -1, 2, -5, 10 ** 18, -10 ** 18, period(m, f, x), -order(m, f)):
                    longer = path + [[(last, e)]]
                    self.assertEqual(compressed_map(network, (place[0], x), longer), power(m, f, e))
                    end = (place[0], apply_map(m, power(m, f, e), x))
                    self.assertEqual(follow_compressed(network, (place[0], x), longer), end)
                self.assertEqual(follow_compressed(network, (place[0], x), path + [[(last, period(m, f, x))]]), (place[0], x))
                y = follow_compressed(network, (place[0], x), path + [[(last, 10 ** 17), (last, 1)]])[1]
                n = distance(m, f, x, y)
                self.assertEqual(n, (10 ** 17 + 1) % period(m, f, x))
                if n > 0:
                    self.assertEqual(follow_compressed(network, (place[0], x), path + [[(last, n)]]), (place[0], y))
                count += f != (1, 0)
        self.assertGreater(count, 50)

    def test_maps_go_through_the_ends_from_every_state_of_the_class(self):
        count = 0
        for network in networks():
            m, watch = network.modulus(), network.watch()
            chosen = random.Random(m + 1)
            for _ in range(15):
                path = random_compressed(network, chosen)
                place = (chosen.choice(network.nodes()), chosen.randrange(watch))
                end = end_of(network, place, path, path[-1])
                if isinstance(end, list):
                    continue
                f = compressed_map(network, place, path)
                numbers = [place[1] + watch * chosen.randrange(m // watch) for _ in range(4)] + [place[1]]
                ends = [follow_compressed(network, (place[0], x), path) for x in numbers]
                self.assertEqual({class_of(network, state) for state in ends}, {end})
                self.assertEqual({compressed_map(network, (place[0], x), path) for x in numbers}, {f})
                self.assertIsNotNone(index_through(m, [(x, state[1]) for x, state in zip(numbers, ends)], f))
                count += 1
        self.assertGreater(count, 100)

    def test_network_and_path_are_unchanged(self):
        network, path = first_network(), [[G], [(0, 5), E]]
        follow_compressed(network, ("a", 0), path)
        compressed_map(network, ("a", 0), path)
        self.assertTrue(network == first_network())
        self.assertEqual(path, [[G], [(0, 5), E]])
