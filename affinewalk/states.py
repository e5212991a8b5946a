"""States of a network and their classes."""

from affinewalk.kinds import is_between, plain_name


def is_state(network, value):
    """Return whether the value (any value) is a state of the network."""
    return is_number_at_node(network, value, network.modulus())


def is_class(network, value):
    """Return whether the value (any value) is a class of the network."""
    return is_number_at_node(network, value, network.watch())


def class_of(network, state):
    """Return the class of a state."""
    node, x = state
    return (plain_name(node), x % network.watch())


def is_number_at_node(network, value, size):
    """Return whether the value (any value) is a tuple of a node and a number from 0 to size - 1."""
    if not isinstance(value, tuple) or len(value) != 2:
        return False
    node, x = value
    return node in network.nodes() and is_between(x, 0, size - 1)
