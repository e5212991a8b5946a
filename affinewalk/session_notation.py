"""The text of a session: its first network, its first state and its actions."""

from affinewalk.errors import InvalidPath, InvalidStep, InvalidText, UnknownName
from affinewalk.kinds import read_number
from affinewalk.limits import MAX_DEPTH, MAX_EXPONENT, MAX_ITEMS, MAX_ROWS
from affinewalk.network_notation import behind_label, format_network, line_at, read_network
from affinewalk.paths import is_step
from affinewalk.rows import repeats, row_depth
from affinewalk.sessions import Session


def format_session(session):
    """Return the text of the session."""
    node, x = session.state(after=0)
    lines = [format_network(session.network(after=0)), f"at {node} {x}"]
    for action in session.actions():
        lines.extend(action_lines(action))
    return "\n".join(lines)


def action_lines(action):
    """Return the list of the lines of an action."""
    word, what = action
    if word == "step":
        return [f"step {what[0]} {what[1]}"]
    if word == "remove":
        return [f"remove {what}"]
    return [f"jump {len(what)}"] + [row_line(row) for row in what]


def row_line(row):
    """Return the line of a row."""
    items = [f"{item[0]} ^ {item[1]}" if repeats(item) else f"{item[0]} {item[1]}" for item in row]
    return "row " + ", ".join(items) if len(items) > 0 else "row"


def parse_session(text):
    """Return the session that has this text; raise InvalidText for any other value."""
    if not isinstance(text, str):
        raise InvalidText(0)
    lines = text.split("\n")
    network, start = read_network(lines)
    state = read_state(line_at(lines, start), network)
    if state is None:
        raise InvalidText(start)
    session = Session(network, state)
    index = start + 1
    while index < len(lines):
        index = read_action(session, lines, index)
    return session


def read_state(line, network):
    """Return the state of a line, or None if it is none of the network."""
    node, _, number = behind_label(line, "at").partition(" ")
    x = read_number(number, network.modulus() - 1)
    return (node, x) if node in network.nodes() and x is not None else None


def read_action(session, lines, index):
    """Do the action of the lines from the index on and return the index behind them; raise InvalidText."""
    word, _, rest = lines[index].partition(" ")
    if word == "jump":
        return read_jump(session, lines, index)
    try:
        if word == "step":
            name, _, direction = rest.partition(" ")
            session.take((name, direction))
        elif word == "remove":
            session.remove(rest)
        else:
            raise InvalidText(index)
    except (InvalidStep, UnknownName):
        raise InvalidText(index) from None
    return index + 1


def read_jump(session, lines, index):
    """Do the jump of the lines from the index on and return the index behind them; raise InvalidText.

    Whatever valid row is read, some jump goes on from it, with rows without items. Only the last row is followed, so
    what cannot be followed is seen there.
    """
    count = read_number(behind_label(lines[index], "jump"), MAX_ROWS)
    if count is None or count == 0:
        raise InvalidText(index)
    path = read_rows(lines, index + 1, count)
    try:
        session.jump(path)
    except InvalidPath:
        raise InvalidText(index + count) from None
    return index + 1 + count


def read_rows(lines, start, count):
    """Return the so many rows of the lines from the start on; raise InvalidText at the first one that is none."""
    path = []
    depths_so_far = []
    for index in range(start, start + count):
        row = read_row(line_at(lines, index), len(path))
        if row is None or row_depth(row, depths_so_far) > MAX_DEPTH:
            raise InvalidText(index)
        path.append(row)
        depths_so_far.append(row_depth(row, depths_so_far))
    return path


def read_row(line, earlier):
    """Return the row of a line behind so many earlier rows, or None if it is none."""
    if line == "row":
        return []
    items = [read_item(text, earlier) for text in behind_label(line, "row").split(", ")]
    return None if None in items or len(items) > MAX_ITEMS else items


def read_item(text, earlier):
    """Return the item that has this text in a row behind so many earlier rows, or None if it is none."""
    words = text.split(" ")
    if len(words) == 2:
        step = (words[0], words[1])
        return step if is_step(step) else None
    if len(words) != 3 or words[1] != "^":
        return None
    index = read_number(words[0], earlier - 1)
    exponent = read_exponent(words[2])
    return None if index is None or exponent is None else (index, exponent)


def read_exponent(word):
    """Return the exponent that the word writes, or None."""
    negative = word.startswith("-")
    size = read_number(word[1:] if negative else word, MAX_EXPONENT)
    if size is None or size == 0:
        return None
    return -size if negative else size
