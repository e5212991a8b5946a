"""Exclusions: certificates that states cannot be reached from a state."""

from affinewalk.maps import apply_map, compose, inverse, is_map
from affinewalk.paths import FORWARD
from affinewalk.sieves import sieve_of
from affinewalk.states import class_of, is_class
from affinewalk.towers import build_tower, is_closed, sifts_number
from affinewalk.trees import Tree, class_steps


def exclusion(network, state):
    """Return an exclusion of the state that excludes all states that cannot be reached."""
    tree = Tree(network, state)
    entries = [(place, tree.map_to(place)) for place in tree.classes()]
    return (entries, build_tower(network.modulus(), state[1], list(tree.loops())))


def is_accepted(network, state, value):
    """Return whether the value (any value) is an exclusion of the state."""
    if not isinstance(value, tuple) or len(value) != 2:
        return False
    entries, tower = value
    if not isinstance(entries, list) or not all([is_entry(network, entry) for entry in entries]):
        return False
    listed = {place: t for place, t in entries}
    if len(listed) != len(entries) or listed.get(class_of(network, state)) != (1, 0):
        return False
    return is_closed(network.modulus(), state[1], tower) and steps_stay(network, listed, state[1], tower)


def is_entry(network, value):
    """Return whether the value (any value) is a tuple of a class and a map."""
    if not isinstance(value, tuple) or len(value) != 2:
        return False
    place, t = value
    return is_class(network, place) and is_map(network.modulus(), t)


def steps_stay(network, listed, x, tower):
    """Return whether the steps from the listed classes lead to listed classes, by maps that sift as they have to."""
    m = network.modulus()
    sieve = sieve_of(m, x, tower)
    backs = {place: inverse(m, listed[place]) for place in listed}
    after = class_steps(network)
    for place in listed:
        for step, end, f in after.get(place, []):
            if end not in listed:
                return False
            # The step back from a listed class has the inverse map, which sifts together with the map of this step.
            if step[1] == FORWARD and not sieve.passes(compose(m, compose(m, listed[place], f), backs[end]), 0):
                return False
    return True


def excludes(network, state, value, other):
    """Return whether an exclusion of the state excludes the other state."""
    entries, tower = value
    m = network.modulus()
    place = class_of(network, other)
    for listed, t in entries:
        if listed == place:
            return not sifts_number(m, state[1], tower, apply_map(m, inverse(m, t), other[1]))
    return True
