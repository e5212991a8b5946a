"""The text of a map, such as 5*x + 0."""

from affinewalk.errors import InvalidText
from affinewalk.maps import is_map
from affinewalk.kinds import read_number


def format_map(f):
    """Return the text of a map."""
    a, b = f
    return f"{a}*x + {b}"


def parse_map(m, text):
    """Return the map modulo m that has this text; raise InvalidText(0) for any other value."""
    if not isinstance(text, str):
        raise InvalidText(0)
    a, _, b = text.partition("*x + ")
    f = (read_number(a, m - 1), read_number(b, m - 1))
    if not is_map(m, f):
        raise InvalidText(0)
    return f
