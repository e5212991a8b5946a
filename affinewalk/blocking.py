"""Sets of edges without which one state cannot be reached from another one."""

from itertools import combinations

from affinewalk.compressed import follow_compressed, is_compressed
from affinewalk.edits import remove_edge
from affinewalk.errors import InvalidPath, UnknownName
from affinewalk.exclusions import excludes, exclusion, is_accepted
from affinewalk.kinds import is_form, plain_name
from affinewalk.reach import can_reach, reach


def minimal_blocking(network, first, second, candidates):
    """Return the list of the minimal blocking sets; raise UnknownName for the first candidate that is no edge."""
    blocks = answers(network, first, second, candidates)
    blocking = [names for names in blocks if blocks[names]]
    return sorted([names for names in blocking if not any([is_below(other, names) for other in blocking])])


def maximal_open(network, first, second, candidates):
    """Return the list of the maximal open sets; raise UnknownName for the first candidate that is no edge."""
    blocks = answers(network, first, second, candidates)
    open_sets = [names for names in blocks if not blocks[names]]
    return sorted([names for names in open_sets if not any([is_below(names, other) for other in open_sets])])


def blocking_certificate(network, first, second, names):
    """Return a blocking certificate for the set of edges; raise UnknownName for the first one that is no edge."""
    require_edges(network, names)
    left = without_edges(network, names)
    path = reach(left, first, second)
    if path is None:
        return ("blocks", exclusion(left, first))
    return ("open", path)


def accepts_blocking(network, first, second, names, certificate):
    """Return whether the certificate (any value) is an accepted one for the set of edges; raise UnknownName."""
    require_edges(network, names)
    left = without_edges(network, names)
    if is_form(certificate, "blocks", 2):
        return is_accepted(left, first, certificate[1]) and excludes(left, first, certificate[1], second)
    if is_form(certificate, "open", 2):
        return is_compressed(certificate[1]) and leads_to(left, first, second, certificate[1])
    return False


def decides(candidates, blocking, open_sets):
    """Return whether each set of candidates either contains a set of the first list or is within one of the second."""
    for names in subsets(candidates):
        above = any([is_within(other, names) for other in blocking])
        below = any([is_within(names, other) for other in open_sets])
        if above == below:
            return False
    return True


def answers(network, first, second, candidates):
    """Return a dict from the sets of candidates to whether they block; raise UnknownName for one that is no edge."""
    require_edges(network, candidates)
    blocks = {}
    # What contains a blocking set blocks, and what an open set contains is open; from the middle most follows.
    for names in sorted(subsets(candidates), key=lambda chosen: abs(2 * len(chosen) - len(candidates))):
        if any([blocks[other] and is_within(other, names) for other in blocks]):
            blocks[names] = True
        elif any([not blocks[other] and is_within(names, other) for other in blocks]):
            blocks[names] = False
        else:
            blocks[names] = not can_reach(without_edges(network, names), first, second)
    return blocks


def subsets(candidates):
    """Return the list of all sets of candidates, as tuples in ascending order."""
    ascending = sorted([plain_name(name) for name in candidates])
    return [names for size in range(len(ascending) + 1) for names in combinations(ascending, size)]


def is_within(names, other):
    """Return whether all names of one set are in the other one."""
    return all([name in other for name in names])


def is_below(names, other):
    """Return whether one set is a proper subset of the other one."""
    return len(names) < len(other) and is_within(names, other)


def require_edges(network, names):
    """Raise UnknownName for the first name that is not the name of an edge."""
    for name in names:
        if not network.has_edge(name):
            raise UnknownName(name)


def without_edges(network, names):
    """Return the network without these edges."""
    for name in names:
        network = remove_edge(network, name)
    return network


def leads_to(network, first, second, path):
    """Return whether a compressed path can be followed from the first state and leads to the second one."""
    try:
        return follow_compressed(network, first, path) == second
    except InvalidPath:
        return False
