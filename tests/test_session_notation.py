import random
import re
import unittest

from affinewalk.compressed import follow_compressed
from affinewalk.errors import InvalidPath, InvalidText, NothingLeft
from affinewalk.network_notation import parse_network
from affinewalk.networks import Network
from affinewalk.session_notation import format_session, parse_session
from affinewalk.sessions import Session
from tests.literal import large_networks, moves, small_networks
from tests.support import WORDS, KeepsArguments, any_values, first_network
from tests.test_edits import edits_network
from tests.test_network_notation import is_network_text
from tests.test_sessions import E, G, example_session, random_action

NUMBER = "(0|[1-9][0-9]*)"
NAME = "[a-z]{1,8}"
ITEM = f"(?:{NAME} (?:forward|backward)|(?:0|[1-9][0-9]*) \\^ -?[1-9][0-9]*)"
ROW = re.compile(f"row(?: {ITEM}(?:, {ITEM})*)?")


def read_row(line, depths):
    """The row of a line behind rows of these depths, or None."""
    if ROW.fullmatch(line) is None:
        return None
    row, depth = [], 0
    for text in line[4:].split(", ") if line != "row" else []:
        words = text.split(" ")
        if len(words) == 2:
            row.append((words[0], words[1]))
            continue
        index, exponent = int(words[0]), int(words[2])
        if index >= len(depths) or abs(exponent) > 10 ** 18:
            return None
        row.append((index, exponent))
        depth = max(depth, 1 + depths[index])
    depths.append(depth)
    return row if len(row) <= 200 and depth <= 200 else None


def after_jump(network, state, lines):
    """The state after the jump of these rows, or None if they are none that can be followed."""
    depths = []
    rows = [read_row(line, depths) for line in lines if depths is not None]
    if None in rows:
        return None
    try:
        return follow_compressed(network, state, rows)
    except InvalidPath:
        return None


def after_line(network, state, line):
    """The network and the state after the action of one line; the state is None if there is no such action."""
    step = re.fullmatch(f"step ({NAME}) (forward|backward)", line)
    if step is not None:
        ends = dict((taken, end) for taken, end, _ in moves(network, state))
        return network, ends.get((step[1], step[2]))
    edges = network.edges()
    left = [edge for edge in edges if line != f"remove {edge[0]}"]
    return Network(network.modulus(), network.watch(), network.nodes(), left), state if len(left) < len(edges) else None


def rows_of_jump(line):
    """The number of rows that the line announces, or None if it announces none."""
    jump = re.fullmatch(f"jump {NUMBER}", line)
    return int(jump[1]) if jump is not None and 1 <= int(jump[1]) <= 2000 else None


def first_action(lines):
    """The index behind the line of the first state, or None if there is no such line."""
    places = [index for index, line in enumerate(lines) if line.startswith("at ")]
    return places[0] + 1 if places else None


def is_session_text(lines):
    """Whether the lines are all the lines of a session's text."""
    start = first_action(lines)
    if start is None or start < 4 or not is_network_text(lines[:start - 1]):
        return False
    network = parse_network("\n".join(lines[:start - 1]))
    at = re.fullmatch(f"at ({NAME}) {NUMBER}", lines[start - 1])
    if at is None or at[1] not in network.nodes() or int(at[2]) >= network.modulus():
        return False
    state = (at[1], int(at[2]))
    while start < len(lines) and state is not None:
        count = rows_of_jump(lines[start])
        if count is None:
            network, state = after_line(network, state, lines[start])
            start += 1
        else:
            rows = lines[start + 1:start + 1 + count]
            state = after_jump(network, state, rows) if len(rows) == count else None
            start += 1 + count
    return state is not None


def completed(lines):
    """The lines with those that are still missing."""
    start = first_action(lines)
    if start is None:
        lines = lines + ["watch 1", "node a"][max(0, len(lines) - 1):]
        return lines + ["at" + lines[2][4:] + " 0"]
    while start < len(lines):
        start += 1 + (rows_of_jump(lines[start]) or 0)
    return lines + ["row"] * (start - len(lines))


def wanted_line(text, valid=0):
    """The line of the error for a text, or None if it is the text of a session; so many lines are known to be valid."""
    lines = text.split("\n")
    if is_session_text(lines):
        return None
    for index in range(valid, len(lines)):
        if not is_session_text(completed(lines[:index + 1])):
            return index
    return len(lines)


def session_of(network, state, chosen, count):
    session = Session(network, state)
    for _ in range(count):
        method, argument = random_action(session, chosen)
        try:
            {"take": session.take, "jump": session.jump, "remove": session.remove}[method](argument)
        except (ValueError, KeyError):
            continue
    return session


def some_sessions():
    sessions = [example_session(), Session(edits_network(), ("b", 11)), busy_session()]
    for seed, network in enumerate(small_networks(71, 30)):
        chosen = random.Random(seed)
        sessions.append(session_of(network, (chosen.choice(network.nodes()), chosen.randrange(network.modulus())), chosen, 7))
    return sessions


def busy_session():
    session = Session(Network(12, 3, ["a", "b"], [("e", "a", "b", (5, 7), [0, 2]), ("g", "b", "b", (1, 3), [0, 1, 2]),
                                                  ("h", "a", "a", (7, 6), [0])]), ("a", 0))
    session.jump([[("h", "forward")], [("h", "backward"), (0, -3)], [], [(1, 10 ** 18), (0, 2), ("e", "forward")]])
    session.take(G)
    session.jump([[G]])
    session.remove("h")
    session.jump([[], [("x", "forward")], [(0, -10 ** 18)]])
    session.take(("e", "backward"))
    return session


class SessionNotationTest(KeepsArguments, unittest.TestCase):
    def assert_invalid(self, text, line):
        with self.assertRaises(InvalidText, msg=text) as caught:
            self.call(parse_session, text)
        self.assert_exactly(caught.exception.line, line)

    def assert_as_wanted(self, text, valid=0):
        line = wanted_line(text, valid)
        if line is None:
            session = parse_session(text)
            self.assertIs(type(session), Session)
            self.assertEqual(format_session(session), text)
        else:
            self.assert_invalid(text, line)
        return line is None

    def assert_read_again(self, session):
        text = self.call(format_session, session)
        self.assertIs(type(text), str)
        again = parse_session(text)
        self.assertTrue(again == session)
        self.assert_exactly(again.actions(), session.actions())
        self.assert_exactly(again.state(), session.state())
        self.assertTrue(again.network() == session.network())
        with self.assertRaises(NothingLeft):
            again.redo()
        return text

    def test_examples(self):
        self.assertEqual(format_session(example_session()),
                         "modulus 12\nwatch 3\nnode a\nnode b\nedge e a b 5 7 when 0 2\nedge g b b 1 3 when 0 1 2\nat a 0\nstep e forward")
        self.assert_invalid("modulus 12\nwatch 3\nnode a\nat a 0\njump 1\nrow e forward", 5)

    def test_by_name(self):
        text = format_session(session=example_session())
        self.assertTrue(parse_session(text=text) == example_session())

    def test_text_of_each_action(self):
        lines = self.assert_read_again(busy_session()).split("\n")
        self.assertEqual(lines[7:], ["at a 0", "jump 4", "row h forward", "row h backward, 0 ^ -3", "row",
                                     "row 1 ^ 1000000000000000000, 0 ^ 2, e forward", "step g forward", "jump 1", "row g forward",
                                     "remove h", "jump 3", "row", "row x forward", "row 0 ^ -1000000000000000000",
                                     "step e backward"])

    def test_written_and_read_again(self):
        for session in some_sessions():
            self.assert_read_again(session)
        for network in large_networks():
            chosen = random.Random(network.modulus())
            self.assert_read_again(session_of(network, (network.nodes()[0], chosen.randrange(network.modulus())), chosen, 5))

    def test_undone_actions_are_no_part_of_the_text(self):
        session = busy_session()
        whole = format_session(session)
        texts = [whole]
        while session.actions():
            session.undo()
            texts.append(self.assert_read_again(session))
        self.assertEqual(texts[-1].split("\n")[-1], "at a 0")
        for text in texts[-2::-1]:
            session.redo()
            self.assertEqual(format_session(session), text)

    def test_no_string(self):
        for value in any_values() + [b"modulus 2", ["modulus 2"], example_session()]:
            if type(value) is not str:
                self.assert_invalid(value, 0)
        for value in any_values():
            if type(value) is str:
                self.assert_as_wanted(value)

    def test_texts_that_end_too_early(self):
        for session in some_sessions()[:12]:
            lines = format_session(session).split("\n")
            for count in range(len(lines) + 1):
                text = "\n".join(lines[:count])
                line = wanted_line(text)
                self.assertIn(line, (None, count) if count > 0 else (0,))
                self.assert_as_wanted(text)
                self.assert_as_wanted(text + "\n")
        text = format_session(Session(first_network(), ("a", 0)))
        for rows in (1, 2, 3, 2000):
            for given in (0, 1, rows - 1):
                if given < rows:
                    self.assert_invalid(text + f"\njump {rows}" + "\nrow" * given, 8 + 1 + given)
            parse_session(text + f"\njump {rows}" + "\nrow" * rows)

    def test_one_change_in_any_line(self):
        found = {False: 0, True: 0}
        for session in some_sessions()[:14]:
            lines = format_session(session).split("\n")
            for k, line in enumerate(lines):
                for other in changed_lines(line):
                    found[self.assert_as_wanted("\n".join(lines[:k] + [other] + lines[k + 1:]), k)] += 1
                for some in (lines[:k] + lines[k + 1:], lines[:k] + [line, line] + lines[k + 1:],
                             lines[:k] + lines[k + 1:k + 2] + [line] + lines[k + 2:], lines[:k] + [""] + lines[k:],
                             lines[:k] + ["row"] + lines[k:], lines[:k] + ["jump 1", "row"] + lines[k:], lines[:k] + ["node z"] + lines[k:]):
                    found[self.assert_as_wanted("\n".join(some), max(0, k - 1))] += 1
        self.assertGreater(found[True], 250)
        self.assertGreater(found[False], 5000)

    def test_two_changes(self):
        found = {False: 0, True: 0}
        chosen = random.Random(9)
        for session in some_sessions() * 3:
            lines = format_session(session).split("\n")
            for _ in range(30):
                some = list(lines)
                for k in chosen.sample(range(len(some)), 2):
                    some[k] = chosen.choice(changed_lines(some[k]))
                if chosen.random() < 0.3:
                    k = chosen.randrange(len(some))
                    some[k:k + 1] = chosen.choice([[], [some[k]] * 2, [chosen.choice(lines)]])
                found[self.assert_as_wanted("\n".join(some))] += 1
        self.assertGreater(found[False], 1000)

    def test_count_of_rows(self):
        text = format_session(example_session()) + "\n"
        for word in ("0", "00", "01", "-1", "+1", "2001", "10000", "1" + "0" * 90, "", "a", "1 ", " 1", "1 1", "1.0", "1,"):
            self.assert_invalid(text + f"jump {word}\nrow", 8)
        self.assert_invalid(text + "jump", 8)
        self.assert_invalid(text + "jump 1\nrow\nrow", 10)
        self.assert_invalid(text + "jump 2\nrow", 10)
        self.assert_invalid(text + "jump 2\nrow\nstep g forward\nrow", 10)
        self.assert_invalid(text + "jump 2000" + "\nrow" * 2001, 8 + 2001)
        self.assertEqual(len(parse_session(text + "jump 2000" + "\nrow" * 2000).actions()[1][1]), 2000)

    def test_rows_at_the_limits(self):
        text = format_session(example_session()) + "\n"
        row = "row " + ", ".join(["g forward"] * 200)
        self.assert_read_again(parse_session(text + "jump 1\n" + row))
        self.assert_invalid(text + "jump 1\n" + row + ", g forward", 9)
        self.assert_invalid(text + "jump 3\nrow\n" + row + ", 0 ^ 1\nrow", 10)
        self.assert_read_again(parse_session(text + "jump 3\nrow\nrow " + ", ".join(["0 ^ 1"] * 200) + "\nrow"))
        self.assert_invalid(text + "jump 3\nrow\nrow " + ", ".join(["0 ^ 1"] * 201) + "\nrow", 10)
        deep = ["row g forward"] + [f"row {k} ^ 1" for k in range(200)]
        self.assert_read_again(parse_session("\n".join([text + "jump 201"] + deep)))
        self.assert_invalid("\n".join([text + "jump 202"] + deep + ["row 200 ^ 1"]), 9 + 201)
        self.assert_invalid("\n".join([text + "jump 203"] + deep + ["row 200 ^ 1", "row"]), 9 + 201)
        self.assert_read_again(parse_session("\n".join([text + "jump 202"] + deep + ["row 199 ^ -1"])))
        for exponent in (10 ** 18, -10 ** 18, 1, -1):
            self.assert_read_again(parse_session(text + f"jump 2\nrow g forward\nrow 0 ^ {exponent}"))
        for exponent in (10 ** 18 + 1, -10 ** 18 - 1, "0", "-0", "01", "+1", "--1", "-", "1e3", "1_0"):
            self.assert_invalid(text + f"jump 2\nrow g forward\nrow 0 ^ {exponent}", 10)
        for index in (1, 2, 10, "00", "-0", "-1", "+0", "", "a"):
            self.assert_invalid(text + f"jump 2\nrow g forward\nrow {index} ^ 1", 10)

    def test_jumps_that_cannot_be_followed(self):
        """Only the last row has to be followed, so what cannot be followed is found at its line."""
        text = format_session(example_session()) + "\n"
        self.assert_read_again(parse_session(text + "jump 2\nrow e forward\nrow g forward"))
        self.assert_invalid(text + "jump 2\nrow e forward\nrow 0 ^ 1", 10)
        self.assert_invalid(text + "jump 3\nrow x forward\nrow 0 ^ 1\nrow 1 ^ 1", 11)
        self.assert_invalid(text + "jump 3\nrow x forward\nrow 0 ^ 1\nrow 1 ^ 1\nstep g forward", 11)
        self.assert_invalid(text + "jump 3\nrow x forward\nrow 0 ^ 1, 1 ^ 1\nrow 0 ^ 1", 10)
        self.assert_invalid(text + "remove e\njump 1\nrow e backward", 10)
        self.assert_invalid(text + "jump 2\nrow e backward\nrow 0 ^ 2", 10)
        self.assert_read_again(parse_session(text + "jump 2\nrow e backward\nrow 0 ^ 1"))

    def test_actions_that_cannot_be_done(self):
        text = format_session(example_session()) + "\n"
        for line in ("step e forward", "step x forward", "step g", "step g sideways", "step", "step ", "remove x", "remove a", "remove",
                     "remove ", "remove e g", "at a 0", "node c", "edge k a a 1 0 when", "undo", "redo", "row", "row g forward", "Step g forward",
                     "step  g forward", "step g  forward", "step g forward ", " step g forward", "step G forward", "modulus 12", ""):
            self.assert_invalid(text + line, 8)
            self.assert_invalid(text + "step g forward\n" + line + "\nstep g forward", 9)
        self.assert_invalid(text + "remove g\nstep g forward", 9)
        self.assert_invalid(text + "remove g\nremove g", 9)
        self.assert_read_again(parse_session(text + "remove e\nremove g"))

    def test_words_of_the_text_as_names(self):
        nodes = ["at", "edge", "jump", "node", "remove", "row", "step", "watch"]
        edges = [(name, "at", "at", (1, 3), [0]) for name in ("backward", "forward", "modulus", "when", "ata", "rowa")]
        session = Session(Network(12, 3, nodes, edges), ("at", 0))
        for name in ("backward", "forward", "modulus"):
            session.take((name, "forward"))
            session.jump([[(name, "backward")], [(0, 2), (name, "forward")]])
            session.remove(name)
        lines = self.assert_read_again(session).split("\n")
        for k, line in enumerate(lines):
            for other in changed_lines(line):
                self.assert_as_wanted("\n".join(lines[:k] + [other] + lines[k + 1:]), k)

    def test_faults_of_the_network_come_first(self):
        lines = format_session(busy_session()).split("\n")
        lines[1] = "watch 5"
        lines[9] = "nothing"
        self.assert_invalid("\n".join(lines), 1)
        lines[0] = "modulus 34"
        self.assert_invalid("\n".join(lines), 0)

    def test_long_sessions(self):
        session = Session(edits_network(), ("b", 1))
        for k in range(3000):
            session.take(("g", "forward" if k % 3 else "backward"))
        text = self.assert_read_again(session)
        self.assert_invalid(text + "\nstep e forward", len(text.split("\n")))
        rows = [[G] * 200] + [[(k // 2, 10 ** 18 - k)] * 200 for k in range(300)]
        session.jump(rows)
        self.assertEqual(self.assert_read_again(session), format_session(session))
        self.assertTrue(example_session() == parse_session(format_session(example_session())))
        self.assertEqual(example_session().actions(), [("step", E)])


def changed_lines(line):
    """Lines that differ from the line in one place."""
    words = line.split(" ")
    found = ["", " " + line, line + " ", line + ",", line.replace(" ", "  ", 1), line.replace(", ", ",", 1), line.replace(", ", " ", 1),
             line.replace(", ", ", , ", 1), line.replace(",", "", 1), line.upper(), line + "\r", line + "x", line[:-1]]
    for k, word in enumerate(words):
        first, rest = words[:k], words[k + 1:]
        others = ["0", "1", "2", "-1", "x", "a", "b", "e", "forward", "backward", "^", "row"] + WORDS[:k % 3]
        if word.strip("-,").isdigit():
            end = "," * word.endswith(",")
            number = int(word.strip(","))
            others += [str(other) + end for other in (number + 1, number - 1, -number, 2 * number, number + 10 ** 18, 10 ** 99)]
            others += [f"0{word}", f"+{word}", f"-{word}", f"{word}0", f"{word}.", f"-0{end}", f"{word}_0"]
        found += [" ".join(first + [other] + rest) for other in others]
        found += [" ".join(first + rest), " ".join(first + [word, word] + rest), " ".join(first + rest[:1] + [word] + rest[1:]),
                  " ".join(first + ["", word] + rest), " ".join(first + [word + ","] + rest), " ".join(first + [word[1:]] + rest),
                  " ".join(first + [word, "x"] + rest)]
    return [other for other in found if other != line]


if __name__ == "__main__":
    unittest.main()
