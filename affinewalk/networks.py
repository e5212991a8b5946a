"""Networks whose edges apply maps."""

from affinewalk.errors import UnknownName
from affinewalk.kinds import plain_name


class Network:
    """A modulus, a watch modulus, nodes, and edges that apply maps to numbers with certain residues."""

    def __init__(self, modulus, watch, nodes, edges):
        self._modulus = int(modulus)
        self._watch = int(watch)
        self._nodes = sorted([plain_name(node) for node in nodes])
        copies = sorted([copy_of_edge(edge) for edge in edges], key=lambda edge: edge[0])
        self._edges = {edge[0]: edge[1:] for edge in copies}

    def __eq__(self, other):
        if not isinstance(other, Network):
            return False
        return (self._modulus == other._modulus and self._watch == other._watch
                and self._nodes == other._nodes and self._edges == other._edges)

    def modulus(self):
        """Return the modulus."""
        return self._modulus

    def watch(self):
        """Return the watch modulus."""
        return self._watch

    def nodes(self):
        """Return the list of the nodes, in ascending order."""
        return list(self._nodes)

    def edges(self):
        """Return the list of the edges (name, source, target, map, residues), in ascending order."""
        return [(name, *edge) for name, edge in self._edges.items()]

    def has_edge(self, name):
        """Return whether the value (any value) is the name of an edge."""
        # Lists and dicts cannot be looked up in a dict.
        return isinstance(name, str) and name in self._edges

    def edge(self, name):
        """Return (source, target, map, residues) of one edge; raise UnknownName for any other value."""
        if not self.has_edge(name):
            raise UnknownName(name)
        return self._edges[name]


def copy_of_edge(edge):
    """Return the edge as a plain tuple of its own, with its residues in ascending order."""
    name, source, target, f, residues = edge
    a, b = f
    ascending = sorted([int(residue) for residue in residues])
    return (plain_name(name), plain_name(source), plain_name(target), (int(a), int(b)), tuple(ascending))
