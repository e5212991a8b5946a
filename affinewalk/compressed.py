"""Compressed paths: lists of rows, of which each may repeat earlier ones."""

from affinewalk.errors import InvalidPath, TooLong
from affinewalk.limits import MAX_DEPTH, MAX_ROWS
from affinewalk.maps import apply_map, compose
from affinewalk.paths import map_of_step, reverse_path
from affinewalk.powers import Powers
from affinewalk.row_ends import RowEnds
from affinewalk.rows import copy_item, copy_rows, depths, is_row, repeats, used_rows
from affinewalk.states import class_of


def is_compressed(value):
    """Return whether the value (any value) is a compressed path; its steps may have any names."""
    if not isinstance(value, list) or not 1 <= len(value) <= MAX_ROWS:
        return False
    if not all([is_row(row, index) for index, row in enumerate(value)]):
        return False
    return max(depths(value)) <= MAX_DEPTH


def step_count(path):
    """Return the number of steps of the plain path."""
    counts = []
    for row in path:
        counts.append(sum([abs(item[1]) * counts[item[0]] if repeats(item) else 1 for item in row]))
    return counts[-1]


def expand(path, *, limit=1000):
    """Return the plain path, a tuple of steps; raise TooLong(limit) if it has more steps than the limit."""
    if step_count(path) > limit:
        raise TooLong(limit)
    # Rows that the last one does not need may be far too long; the others are no longer than the plain path.
    plain = {}
    for index in used_rows(path):
        plain[index] = expand_row(path[index], plain)
    return plain[len(path) - 1]


def expand_row(row, plain):
    """Return the plain path of a row; plain has those of the rows that it repeats."""
    found = []
    for item in row:
        if not repeats(item):
            found.append(copy_item(item, 0))
        elif len(plain[item[0]]) > 0:
            once = plain[item[0]] if item[1] > 0 else reverse_path(plain[item[0]])
            found.extend(once * abs(item[1]))
    return tuple(found)


def reverse_compressed(path):
    """Return the path with one more row that follows it backwards; raise TooLong if it is too long or too deep."""
    rows = copy_rows(path, 0)
    rows.append([(len(path) - 1, -1)])
    require_limits(rows)
    return rows


def join_compressed(first, second):
    """Return the rows of both paths with one more row that follows both; raise TooLong if too long or too deep."""
    rows = copy_rows(first, 0) + copy_rows(second, len(first))
    rows.append([(len(first) - 1, 1), (len(first) + len(second) - 1, 1)])
    require_limits(rows)
    return rows


def require_limits(path):
    """Raise TooLong if the path has too many rows, or else if one of them is too deep."""
    if len(path) > MAX_ROWS:
        raise TooLong(MAX_ROWS)
    if max(depths(path)) > MAX_DEPTH:
        raise TooLong(MAX_DEPTH)


def follow_compressed(network, state, path):
    """Return the state at the end of the path; raise InvalidPath if the path cannot be followed from the state."""
    node, _ = end_class(network, state, path)
    return (node, apply_map(network.modulus(), map_of_rows(network, path), state[1]))


def compressed_map(network, state, path):
    """Return the map of the path; raise InvalidPath if the path cannot be followed from the state."""
    end_class(network, state, path)
    return map_of_rows(network, path)


def end_class(network, state, path):
    """Return the class to which the path leads; raise InvalidPath with the first item that cannot be followed."""
    ends = RowEnds(network, path)
    place = class_of(network, state)
    for index, item in enumerate(path[-1]):
        place, fault = ends.after(place, item)
        if fault is not None:
            raise InvalidPath(index, fault)
    return place


def map_of_rows(network, path):
    """Return the map of the last row; all steps that it needs have edges in the network."""
    m = network.modulus()
    row_powers = {}
    item_maps = {}
    for index in used_rows(path):
        result = (1, 0)
        for item in path[index]:
            if item not in item_maps:
                item_maps[item] = row_powers[item[0]].power(item[1]) if repeats(item) else map_of_step(network, item)
            result = compose(m, result, item_maps[item])
        row_powers[index] = Powers(m, result)
    return row_powers[len(path) - 1].power(1)
