import re
import unittest
from math import gcd

from affinewalk.errors import InvalidText
from affinewalk.network_notation import format_network, parse_network
from affinewalk.networks import Network
from tests.support import (WORDS, KeepsArguments, any_values, first_network, is_smooth, largest_parts, random_parts,
                           smooth_numbers)

NUMBER = "(0|[1-9][0-9]{0,9})"
NAME = "([a-z]{1,8})"
EDGE = re.compile(f"edge {NAME} {NAME} {NAME} {NUMBER} {NUMBER} when((?: {NUMBER})*)")
SIGNS = "\n abdeghnowz0123579*+-AZ_~.,"
SMALL_MODULI = smooth_numbers(10 ** 6) - {1}

TEXT = "modulus 12\nwatch 3\nnode a\nnode b\nedge e a b 5 7 when 0 2\nedge g b b 1 3 when"


def is_modulus_by_trial(m):
    return m in SMALL_MODULI if m <= 10 ** 6 else m <= 10 ** 9 and is_smooth(m)


def is_edge_line(line, m, watch, nodes):
    match = EDGE.fullmatch(line)
    if match is None:
        return False
    name, source, target, a, b, residues, _ = match.groups()
    residues = [int(r) for r in residues.split()]
    return (name not in nodes and source in nodes and target in nodes and gcd(int(a), m) == 1 and int(a) < m
            and int(b) < m and residues == sorted(set(residues)) and all(r < watch for r in residues))


def is_network_text(lines):
    """Whether the lines are all the lines of a network's text, asked with patterns and for the whole text at once."""
    first, second = re.fullmatch(f"modulus {NUMBER}", lines[0]), re.fullmatch(f"watch {NUMBER}", lines[1])
    if first is None or second is None:
        return False
    m, watch = int(first[1]), int(second[1])
    if m < 2 or not is_modulus_by_trial(m) or not 1 <= watch <= 60 or m % watch != 0:
        return False
    count = 0
    while 2 + count < len(lines) and re.fullmatch(f"node {NAME}", lines[2 + count]):
        count += 1
    nodes = [line[5:] for line in lines[2:2 + count]]
    edge_lines = lines[2 + count:]
    if not all(is_edge_line(line, m, watch, nodes) for line in edge_lines):
        return False
    names = [line.split(" ")[1] for line in edge_lines]
    return (1 <= len(nodes) <= 8 and nodes == sorted(set(nodes))
            and len(names) <= 24 and names == sorted(set(names)))


def begins_a_text(lines):
    """Whether some network's text begins with the lines; two more lines are enough to complete such a text."""
    return is_network_text(lines + ["watch 1", "node a"][len(lines) - 1:])


def wanted_line(text):
    """The line of the error for a text, or None if it is the text of a network."""
    lines = text.split("\n")
    for index in range(len(lines)):
        if not begins_a_text(lines[:index + 1]):
            return index
    return None if len(lines) > 2 else len(lines)


class NetworkNotationTest(KeepsArguments, unittest.TestCase):
    def assert_invalid(self, text, line):
        with self.assertRaises(InvalidText, msg=text) as caught:
            self.call(parse_network, text)
        self.assertEqual(caught.exception.line, line, text)
        self.assertIs(type(caught.exception.line), int)

    def assert_as_wanted(self, text):
        line = wanted_line(text)
        if line is None:
            network = parse_network(text)
            self.assertIs(type(network), Network)
            self.assertEqual(format_network(network), text)
        else:
            self.assert_invalid(text, line)

    def assert_read_again(self, network):
        text = format_network(network)
        self.assertIs(type(text), str)
        again = parse_network(text)
        self.assertTrue(again == network)
        self.assert_exactly(again.edges(), network.edges())
        self.assert_exactly(again.nodes(), network.nodes())
        self.assert_exactly([again.modulus(), again.watch()], [network.modulus(), network.watch()])
        self.assertEqual(format_network(again), text)

    def test_examples(self):
        network = Network(12, 3, ["a"], [("e", "a", "a", (5, 1), [2, 0])])
        self.assert_exactly(format_network(network), "modulus 12\nwatch 3\nnode a\nedge e a a 5 1 when 0 2")
        self.assert_invalid("modulus 12\nwatch 5\nnode a", 1)

    def test_by_name(self):
        network = parse_network(text=TEXT)
        self.assertEqual(format_network(network=network), TEXT)

    def test_text_of_each_part(self):
        edges = [("g", "b", "b", (1, 3), []), ("e", "a", "b", (5, 7), [2, 0])]
        network = Network(12, 3, ["b", "a"], edges)
        self.assertEqual(format_network(network), TEXT)
        self.assertTrue(parse_network(TEXT) == network)
        self.assertEqual(format_network(Network(2, 1, ["x"], [])), "modulus 2\nwatch 1\nnode x")
        self.assertTrue(network == Network(12, 3, ["b", "a"], edges))

    def test_written_and_read_again(self):
        self.assert_read_again(first_network())
        for seed in range(150):
            self.assert_read_again(Network(*random_parts(seed)))

    def test_words_of_the_text_as_names(self):
        nodes = ["at", "edge", "node", "row", "watch", "when"]
        edges = [("forward", "when", "edge", (5, 1), [0]), ("modulus", "node", "when", (1, 0), []),
                 ("step", "edge", "edge", (7, 2), [1, 2]), ("jump", "at", "row", (1, 1), [2])]
        network = Network(12, 3, nodes, edges)
        self.assert_read_again(network)
        self.assertIn("edge modulus node when 1 0 when\n", format_network(network))
        for name in WORDS:
            self.assert_read_again(Network(12, 3, [name], [("e", name, name, (5, 1), [])]))
            self.assert_read_again(Network(12, 3, ["a"], [(name, "a", "a", (5, 1), [0, 1, 2])]))

    def test_limits(self):
        m, watch, nodes, edges = largest_parts()
        self.assert_read_again(Network(m, watch, nodes, edges))
        self.assert_read_again(Network(10 ** 9, 50, nodes, [edge[:3] + ((999999999, 999999999), [0, 49]) for edge in edges]))
        self.assert_read_again(Network(60, 60, ["a"], [("b", "a", "a", (59, 59), list(range(60)))]))
        self.assert_read_again(Network(10 ** 9, 1, ["a"], [("b", "a", "a", (1, 0), [0]), ("c", "a", "a", (1, 0), [])]))

    def test_one_beyond_each_limit(self):
        m, watch, nodes, edges = largest_parts()
        text = format_network(Network(m, watch, nodes, edges))
        lines = text.split("\n")
        self.assertEqual(len(lines), 34)
        more_nodes = lines[:10] + ["node zz"] + lines[10:]
        self.assert_invalid("\n".join(more_nodes), 10)
        self.assert_invalid("\n".join(more_nodes[:11]), 10)
        self.assert_invalid(text + "\nedge b bbbbbbbb bbbbbbbb 1 0 when", 34)
        self.assert_invalid("modulus 1000000001\nwatch 1\nnode a", 0)
        self.assert_invalid("modulus 2000000000\nwatch 1\nnode a", 0)
        self.assert_invalid("modulus 1073741824\nwatch 1\nnode a", 0)
        self.assert_invalid("modulus 126\nwatch 63\nnode a", 1)
        self.assert_invalid("modulus 122\nwatch 61\nnode a", 0)
        self.assert_invalid("modulus 60\nwatch 61\nnode a", 1)
        self.assert_invalid("modulus 1000000000\nwatch 60\nnode a", 1)
        self.assert_invalid("modulus 12\nwatch 1\nnode aaaaaaaaa", 2)
        start = "modulus 60\nwatch 60\nnode a\n"
        self.assert_invalid(start + "edge aaaaaaaaa a a 1 0 when", 3)
        self.assert_invalid(start + "edge b a a 60 0 when", 3)
        self.assert_invalid(start + "edge b a a 61 0 when", 3)
        self.assert_invalid(start + "edge b a a 1 60 when", 3)
        self.assert_invalid(start + "edge b a a 1 0 when 60", 3)
        self.assert_invalid(start + "edge b a a 1 0 when " + " ".join([str(r) for r in range(61)]), 3)

    def test_numbers_of_nodes_and_edges(self):
        for count in range(1, 12):
            lines = ["modulus 12", "watch 1"] + [f"node n{letter}" for letter in "abcdefghijkl"[:count]]
            self.assertEqual(wanted_line("\n".join(lines)), None if count <= 8 else 10)
            self.assert_as_wanted("\n".join(lines))
        for count in range(0, 27):
            lines = ["modulus 12", "watch 1", "node a"]
            lines.extend([f"edge b{chr(97 + k)} a a 1 {k % 12} when 0" for k in range(count)])
            self.assertEqual(wanted_line("\n".join(lines)), None if count <= 24 else 27)
            self.assert_as_wanted("\n".join(lines))

    def test_texts_that_end_too_early(self):
        self.assert_invalid("", 0)
        self.assert_invalid("\n", 0)
        self.assert_invalid("modulus 12", 1)
        self.assert_invalid("modulus 12\nwatch 3", 2)
        self.assert_invalid("modulus 12\n", 1)
        self.assert_invalid("modulus 12\nwatch 3\n", 2)
        self.assert_invalid("modulus 12\nwatch 3\nedge e a b 5 7 when 0 2", 2)
        lines = TEXT.split("\n")
        for count in range(3, 7):
            self.assertEqual(format_network(parse_network("\n".join(lines[:count]))), "\n".join(lines[:count]))

    def test_newlines_and_spaces_at_the_ends(self):
        self.assert_invalid(TEXT + "\n", 6)
        self.assert_invalid(TEXT + "\n\n", 6)
        self.assert_invalid("\n" + TEXT, 0)
        self.assert_invalid(" " + TEXT, 0)
        self.assert_invalid(TEXT + " ", 5)
        self.assert_invalid(TEXT.replace("\nnode", "\n\nnode", 1), 2)
        self.assert_invalid(TEXT.replace("\n", "\r\n"), 0)
        self.assert_invalid(TEXT.replace("\n", " "), 0)
        self.assert_invalid(TEXT.replace("\n", " \n"), 0)

    def test_faults_of_each_line(self):
        lines = TEXT.split("\n")
        faults = [
            ["modulus", "modulus ", "modulus 0", "modulus 1", "modulus 012", "modulus +12", "modulus -12", "modulus 34",
             "modulus 17", "modulus 12 ", "modulus  12", " modulus 12", "modulus 12 12", "modulus twelve", "Modulus 12",
             "watch 12", "12", "modulus12", "modulus 1_2", "modulus 12.0", "modulus " + "9" * 5000, "modulus\t12",
             "modulus \u0661\u0662", "modulus 1 2"],
            ["watch", "watch ", "watch 0", "watch 03", "watch -3", "watch +3", "watch 5", "watch 24", "watch 60",
             "watch 3 ", "watch  3", " watch 3", "watch 3 3", "modulus 3", "node a", "watch a", "watch " + "3" * 5000],
            ["node", "node ", "node A", "node a1", "node  a", "node a ", " node a", "node a b", "node 1", "edge a",
             "node abcdefghi", "watch 3", "edge e a b 5 7 when", "nodea", "node \u00e4", "node a,"],
            ["node a", "node ", "node B", "nodes b", "watch 3", "node aaaaaaaaa", "", "node b b"],
        ]
        for index, wrong_lines in enumerate(faults):
            for wrong in wrong_lines:
                self.assert_invalid("\n".join(lines[:index] + [wrong] + lines[index + 1:]), index)

    def test_faults_of_an_edge(self):
        lines = TEXT.split("\n")
        for wrong in (
                "edge", "edge ", "edge e", "edge e a b", "edge e a b 5 7", "edge e a b 5 7 ", "edge e a b 5 7 when ",
                "edge e a b 5 7 when 0 2 ", "edge e a b 5 7 when  0 2", "edge e a b 5 7 when 0  2", "edge e  a b 5 7 when",
                " edge e a b 5 7 when", "edge e a b 5 7 whem 0", "edge e a b 5 7 0 2", "edge e a b 5 7 When 0",
                "edge e a b 5 when 0 2", "edge e a 5 7 when 0 2", "edge a b 5 7 when 0 2", "edge e a b 5 7 7 when 0 2",
                "edge e a b when 5 7 0 2", "edge e c b 5 7 when 0", "edge e a c 5 7 when 0", "edge e e b 5 7 when 0",
                "edge e a e 5 7 when 0", "edge a a b 5 7 when 0", "edge b a b 5 7 when 0", "edge E a b 5 7 when 0",
                "edge e1 a b 5 7 when 0", "edge eeeeeeeee a b 5 7 when 0", "edge e A b 5 7 when 0", "edge e a b 4 7 when 0",
                "edge e a b 0 7 when 0", "edge e a b 3 7 when 0", "edge e a b 12 7 when 0", "edge e a b 13 7 when 0",
                "edge e a b 5 12 when 0", "edge e a b 5 19 when 0", "edge e a b -5 7 when 0", "edge e a b 5 -7 when 0",
                "edge e a b +5 7 when 0", "edge e a b 05 7 when 0", "edge e a b 5 07 when 0", "edge e a b 5 00 when 0",
                "edge e a b 5 7 when 3", "edge e a b 5 7 when 0 3", "edge e a b 5 7 when 2 0", "edge e a b 5 7 when 0 0",
                "edge e a b 5 7 when 1 1 2", "edge e a b 5 7 when 00", "edge e a b 5 7 when 0 02", "edge e a b 5 7 when -1",
                "edge e a b 5 7 when +1", "edge e a b 5 7 when a", "edge e a b 5 7 when 0,2", "edge e a b 5 7 when 0, 2",
                "edge e a b 5 7 when 0 when", "edge e a b 5*x + 7 when 0", "edge e a b 5 7 when 0\t2", "edg e a b 5 7 when 0",
                "node a", "node c d", "", " ", "modulus 12", "watch 3", "edge e a b 5 7 when " + "0" * 5000,
                "edge e a b 5 " + "7" * 5000 + " when", "at a 0", "step e forward", "edge h a b 5 " + "0" * 20 + "7 when"):
            self.assert_invalid("\n".join(lines[:4] + [wrong] + lines[5:]), 4)
            self.assert_invalid("\n".join(lines[:4] + [wrong]), 4)

    def test_names_twice_or_not_ascending(self):
        start = "modulus 12\nwatch 3\n"
        self.assert_invalid(start + "node a\nnode a", 3)
        self.assert_invalid(start + "node b\nnode a", 3)
        self.assert_invalid(start + "node ab\nnode b\nnode aa", 4)
        self.assert_invalid(start + "node ab\nnode a", 3)
        self.assert_invalid(start + "node a\nedge b a a 1 0 when\nnode c", 4)
        self.assert_invalid(start + "node a\nedge a a a 1 0 when", 3)
        self.assert_invalid(start + "node a\nedge b a a 1 0 when\nedge b a a 1 1 when", 4)
        self.assert_invalid(start + "node a\nedge c a a 1 0 when\nedge b a a 1 1 when", 4)
        self.assert_invalid(start + "node b\nedge a b b 1 0 when\nedge b b b 1 1 when\nedge a b b 1 0 when", 4)
        self.assert_invalid(start + "node b\nedge bb b b 1 0 when\nedge c b b 1 0 when\nedge ba b b 1 1 when", 5)
        self.assertEqual(parse_network(start + "node b\nedge a b b 1 0 when\nedge c b b 1 0 when").nodes(), ["b"])

    def test_the_first_of_several_faults(self):
        self.assert_invalid("modulus 34\nwatch 0\nnode 1", 0)
        self.assert_invalid("modulus 12\nwatch 0\nnode 1", 1)
        self.assert_invalid("modulus 12\nwatch 3\nnode 1\nedge", 2)
        self.assert_invalid("modulus 12\nwatch 3\nnode a\nedge\nnode a", 3)

    def test_changed_signs(self):
        for text in (TEXT, "modulus 9\nwatch 9\nnode at\nedge row at at 4 0 when 0 4 8"):
            changed = {text[:k] + text[k + 1:] for k in range(len(text))}
            for sign in SIGNS:
                changed.update([text[:k] + sign + text[k + 1:] for k in range(len(text))])
                changed.update([text[:k] + sign + text[k:] for k in range(len(text) + 1)])
            self.assertGreater(len(changed), 1000)
            for other in sorted(changed):
                self.assert_as_wanted(other)

    def test_changed_lines(self):
        for seed in [0] + list(range(1, 25)):
            text = TEXT if seed == 0 else format_network(Network(*random_parts(seed)))
            lines = text.split("\n")[:20]
            for k in range(len(lines)):
                rest = lines[:k] + lines[k + 1:]
                self.assert_as_wanted("\n".join(rest))
                self.assert_as_wanted("\n".join(lines[:k] + ["", ""] + lines[k:]))
                for place in range(len(lines)):
                    self.assert_as_wanted("\n".join(rest[:place] + [lines[k]] + rest[place:]))
                    self.assert_as_wanted("\n".join(lines[:place] + [lines[k]] + lines[place:]))
                    exchanged = list(lines)
                    exchanged[k], exchanged[place] = lines[place], lines[k]
                    self.assert_as_wanted("\n".join(exchanged))

    def test_changed_words(self):
        for seed in [0] + list(range(1, 25)):
            text = TEXT if seed == 0 else format_network(Network(*random_parts(seed)))
            lines = text.split("\n")[:14]
            for at, line in enumerate(lines):
                words = line.split(" ")[:16]
                changed = [words + ["0"], words + ["when"], words + [""]]
                for k in range(len(words)):
                    changed.append(words[:k] + words[k + 1:])
                    changed.append(words[:k] + [words[k]] + words[k:])
                    changed.extend([words[:k] + [word] + words[k + 1:] for word in ("00", "-1", "+1", "7", "a", "when", "")])
                    changed.append(words[:k] + ["0" + words[k]] + words[k + 1:])
                    for other in range(k):
                        exchanged = list(words)
                        exchanged[k], exchanged[other] = words[other], words[k]
                        changed.append(exchanged)
                for others in changed:
                    self.assert_as_wanted("\n".join(lines[:at] + [" ".join(others)] + lines[at + 1:]))

    def test_values_that_are_no_strings(self):
        values = any_values() + [TEXT.split("\n"), tuple(TEXT.split("\n")), {TEXT: 1}, TEXT.encode(), first_network()]
        for value in values:
            self.assert_invalid(value, 0)
