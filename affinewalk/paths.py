"""Steps along the edges of a network, paths of steps, and the texts of paths."""

from affinewalk.errors import InvalidPath, InvalidStep, InvalidText
from affinewalk.kinds import is_name, plain_name
from affinewalk.maps import apply_map, compose, inverse

FORWARD = "forward"
BACKWARD = "backward"


def is_step(value):
    """Return whether the value (any value) is a step; whether a network has such an edge is not asked."""
    if not isinstance(value, tuple) or len(value) != 2:
        return False
    name, word = value
    return is_name(name) and (word == FORWARD or word == BACKWARD)


def steps(network, state):
    """Return the list of the steps that can be taken in the state, in ascending order."""
    found = []
    for edge in network.edges():
        for step in ((edge[0], BACKWARD), (edge[0], FORWARD)):
            _, fault = try_step(network, state, step)
            if fault is None:
                found.append(step)
    return found


def take_step(network, state, step):
    """Return the state after the step; raise InvalidStep with the first reason why it cannot be taken."""
    after, fault = try_step(network, state, step)
    if fault is not None:
        raise InvalidStep(fault)
    return after


def try_step(network, state, step):
    """Return the state after the step (any value) and None, or None and the first reason why it cannot be taken."""
    if not is_step(step):
        return None, "form"
    name, word = step
    if not network.has_edge(name):
        return None, "edge"
    source, target, _, residues = network.edge(name)
    start, end = (source, target) if word == FORWARD else (target, source)
    node, x = state
    if node != start:
        return None, "node"
    y = apply_map(network.modulus(), map_of_step(network, step), x)
    at_source = x if word == FORWARD else y
    if at_source % network.watch() not in residues:
        return None, "residue"
    return (end, y), None


def map_of_step(network, step):
    """Return the map that a step along an edge of the network applies."""
    name, word = step
    f = network.edge(name)[2]
    return f if word == FORWARD else inverse(network.modulus(), f)


def follow(network, state, path):
    """Return the list of the states along the path, the first one included; raise InvalidPath if it cannot be done."""
    node, x = state
    states = [(plain_name(node), int(x))]
    for index, step in enumerate(path):
        after, fault = try_step(network, states[-1], step)
        if fault is not None:
            raise InvalidPath(index, fault)
        states.append(after)
    return states


def path_map(network, state, path):
    """Return the composition of the maps of the steps; raise InvalidPath if the path cannot be followed."""
    follow(network, state, path)
    result = (1, 0)
    for step in path:
        result = compose(network.modulus(), result, map_of_step(network, step))
    return result


def reverse_path(path):
    """Return the tuple of the steps in reverse order, each in the other direction."""
    return tuple([reverse_step(step) for step in reversed(path)])


def reverse_step(step):
    """Return the step along the same edge in the other direction."""
    name, word = step
    return (plain_name(name), BACKWARD if word == FORWARD else FORWARD)


def format_path(path):
    """Return the text of a path."""
    return ", ".join([f"{name} {word}" for name, word in path])


def parse_path(text):
    """Return the path that has this text, with any names; raise InvalidText(0) for any other value."""
    if not isinstance(text, str):
        raise InvalidText(0)
    if text == "":
        return ()
    return tuple([parse_step(part) for part in text.split(", ")])


def parse_step(text):
    """Return the step that has this text; raise InvalidText(0) for any other text."""
    name, _, word = text.partition(" ")
    if not is_step((name, word)):
        raise InvalidText(0)
    return (name, word)
