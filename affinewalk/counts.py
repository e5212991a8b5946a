"""How many states can be reached, which ones in chain order, and divisors that separate the others from them.

The numbers that can be reached at a node are followed digit by digit. A branch is a map. It stands for the images under
it of all images of x under the maps that sift from some level on, and these are all congruent modulo its divisor.
"""

from affinewalk.arithmetic import chain
from affinewalk.errors import OutOfRange
from affinewalk.exclusions import exclusion
from affinewalk.kinds import is_between
from affinewalk.maps import apply_map, compose
from affinewalk.states import class_of
from affinewalk.towers import size_product
from affinewalk.trees import Tree


def digits(m, x):
    """Return the list of the digits of x, a number from 0 to m - 1."""
    divisors = chain(m)
    return [x // d % (finer // d) for d, finer in zip(divisors, divisors[1:])]


def home_order(network, state):
    """Return the order of the home group of the state."""
    _, tower = exclusion(network, state)
    return size_product(tower)


def count_reachable(network, state):
    """Return the number of states that can be reached from the state."""
    entries, tower = exclusion(network, state)
    return len(entries) * size_product(image_levels(tower))


def count_at(network, state, node):
    """Return the number of the x for which (node, x) can be reached from the state."""
    entries, tower = exclusion(network, state)
    return len(branches_at(entries, node)) * size_product(image_levels(tower))


def reachable_at(network, state, node, index):
    """Return the x with this index among those that can be reached at the node; raise OutOfRange if there is none."""
    entries, tower = exclusion(network, state)
    levels = image_levels(tower)
    branches = branches_at(entries, node)
    each = size_product(levels)
    if not is_between(index, 0, len(branches) * each - 1):
        raise OutOfRange(index)
    x, left = 0, index
    for level, divisor in zip(levels, chain(network.modulus())[1:]):
        each = each // len(level)
        found = split_branches(network.modulus(), state[1], branches, level, divisor)
        x, left = number_at(found, each, left)
        branches = found[x]
    return x


def index_at(network, state, other):
    """Return the index of the number of the other state among those that can be reached at its node, or None."""
    entries, tower = exclusion(network, state)
    levels = image_levels(tower)
    node, y = other
    branches = branches_at(entries, node)
    each = size_product(levels)
    index = 0
    for level, divisor in zip(levels, chain(network.modulus())[1:]):
        each = each // len(level)
        found = split_branches(network.modulus(), state[1], branches, level, divisor)
        if y % divisor not in found:
            return None
        index = index + each * sum([len(found[x]) for x in found if x < y % divisor])
        branches = found[y % divisor]
    return index


def separating_divisor(network, state, other):
    """Return the separating divisor of the other state for those that can be reached, or None if it is one of them."""
    entries, tower = exclusion(network, state)
    node, y = other
    branches = branches_at(entries, node)
    if branches == []:
        return 1
    for level, divisor in zip(image_levels(tower), chain(network.modulus())[1:]):
        found = split_branches(network.modulus(), state[1], branches, level, divisor)
        if y % divisor not in found:
            return divisor
        branches = found[y % divisor]
    return None


def number_at(found, each, index):
    """Return the number of the dict under which the index lies, and the index among what is there.

    The dict is one from numbers to lists of branches, each of which stands for as many numbers as each says.
    """
    numbers = sorted(found)
    at, left = 0, index
    while left >= len(found[numbers[at]]) * each:
        left = left - len(found[numbers[at]]) * each
        at += 1
    return numbers[at], left


def image_levels(tower):
    """Return the levels of a tower that tell the images of its x apart."""
    return tower[:len(tower) // 2]


def branches_at(entries, node):
    """Return the list of the maps of the tree paths to the classes of a node."""
    return [t for place, t in entries if place[0] == node]


def split_branches(m, x, branches, level, divisor):
    """Return a dict from numbers modulo the divisor of the level to the lists of the branches that lead there."""
    found = {}
    for branch in branches:
        for r in level:
            longer = compose(m, r, branch)
            found.setdefault(apply_map(m, longer, x) % divisor, []).append(longer)
    return found
