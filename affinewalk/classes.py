"""Parts of a network, tree paths to their classes, and loops."""

from affinewalk.paths import reverse_path
from affinewalk.states import class_of
from affinewalk.trees import Tree


def part(network, state):
    """Return the list of the classes that can be reached from the class of the state, in ascending order."""
    return Tree(network, state).classes()


def same_part(network, state, other):
    """Return whether the class of the other state is in the part of the state."""
    return Tree(network, state).holds(class_of(network, other))


def tree_paths(network, state):
    """Return a dict from the classes of the part, in ascending order, to paths of the fewest steps to them."""
    tree = Tree(network, state)
    return {place: tree.path_to(place) for place in tree.classes()}


def loops(network, state):
    """Return a list of closed paths whose maps generate the home group."""
    tree = Tree(network, state)
    return [loop_path(tree, turn) for turn in tree.loops().values()]


def loop_path(tree, turn):
    """Return the closed path that leaves the tree with a step; the turn is (class, step, class after the step)."""
    place, step, end = turn
    return tree.path_to(place) + (step,) + reverse_path(tree.path_to(end))
