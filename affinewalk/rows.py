"""Rows of compressed paths and their items: steps, and repetitions (index, exponent) of earlier rows."""

from affinewalk.kinds import is_between, plain_name
from affinewalk.limits import MAX_EXPONENT, MAX_ITEMS
from affinewalk.paths import is_step, reverse_step


def is_row(value, earlier):
    """Return whether the value (any value) can stand as a row behind so many earlier rows."""
    if not isinstance(value, list) or len(value) > MAX_ITEMS:
        return False
    return all([is_step(item) or is_repetition(item, earlier) for item in value])


def is_repetition(value, earlier):
    """Return whether the value (any value) is a repetition of one of so many earlier rows."""
    if not isinstance(value, tuple) or len(value) != 2:
        return False
    index, exponent = value
    return is_between(index, 0, earlier - 1) and is_between(exponent, -MAX_EXPONENT, MAX_EXPONENT) and exponent != 0


def repeats(item):
    """Return whether an item of a row is a repetition, and not a step."""
    return not isinstance(item[0], str)


def depths(path):
    """Return the list of the depths of the rows."""
    found = []
    for row in path:
        found.append(row_depth(row, found))
    return found


def row_depth(row, found):
    """Return the depth of a row; found has those of the earlier rows."""
    return max([1 + found[item[0]] for item in row if repeats(item)], default=0)


def used_rows(path):
    """Return the list of the indexes of the last row and of all rows that it needs, in ascending order."""
    used = [False for _ in path]
    used[-1] = True
    for index in range(len(path) - 1, -1, -1):
        if used[index]:
            for item in path[index]:
                if repeats(item):
                    used[item[0]] = True
    return [index for index in range(len(path)) if used[index]]


def reverse_row(row):
    """Return the reversed row: the items in reverse order, each of them leading back."""
    return [reverse_item(item) for item in reversed(row)]


def reverse_item(item):
    """Return the item that leads back."""
    return (item[0], -item[1]) if repeats(item) else reverse_step(item)


def copy_rows(path, shift):
    """Return the rows as new lists, with the shift added to each index of a repetition."""
    return [[copy_item(item, shift) for item in row] for row in path]


def copy_item(item, shift):
    """Return the item as a plain tuple, with the shift added to the index of a repetition."""
    if repeats(item):
        return (item[0] + shift, int(item[1]))
    return (plain_name(item[0]), plain_name(item[1]))
