"""Edits: networks that are made from other ones by a change."""

from affinewalk.errors import UnknownName
from affinewalk.maps import apply_map, compose, inverse
from affinewalk.networks import Network


def remove_edge(network, name):
    """Return the network without the edge; raise UnknownName if there is no edge of this name (any value)."""
    return replace_edge(network, name, [])


def change_residues(network, name, residues):
    """Return the network in which the edge has these residues; raise UnknownName if there is no such edge."""
    source, target, f, _ = network.edge(name)
    return replace_edge(network, name, [(name, source, target, f, residues)])


def change_map(network, name, f):
    """Return the network in which the edge has the map f; raise UnknownName if there is no such edge."""
    source, target, _, residues = network.edge(name)
    return replace_edge(network, name, [(name, source, target, f, residues)])


def reverse_edge(network, name):
    """Return the network in which the edge goes the other way; raise UnknownName if there is no such edge."""
    source, target, f, residues = network.edge(name)
    back = inverse(network.modulus(), f)
    return replace_edge(network, name, [(name, target, source, back, images(network, f, residues))])


def subdivide(network, name, node, new_name, u):
    """Return the network in which the edge goes to the new node by the map u, and the new edge goes on from there.

    Raise UnknownName if there is no edge with the name.
    """
    source, target, f, residues = network.edge(name)
    m = network.modulus()
    rest = compose(m, inverse(m, u), f)
    halves = [(name, source, node, u, residues), (new_name, node, target, rest, images(network, u, residues))]
    return with_parts(network, network.nodes() + [node], other_edges(network, name) + halves)


def rename(network, names):
    """Return the network with other names, by a dict from old to new ones; raise UnknownName for the first odd key."""
    known = network.nodes() + [edge[0] for edge in network.edges()]
    for key in names:
        if key not in known:
            raise UnknownName(key)
    nodes = [names.get(node, node) for node in network.nodes()]
    edges = [(names.get(name, name), names.get(source, source), names.get(target, target), f, residues)
             for name, source, target, f, residues in network.edges()]
    return with_parts(network, nodes, edges)


def relabel(network, u):
    """Return the network in which every number x is called u(x)."""
    m = network.modulus()
    back = inverse(m, u)
    edges = [(name, source, target, compose(m, compose(m, back, f), u), images(network, u, residues))
             for name, source, target, f, residues in network.edges()]
    return with_parts(network, network.nodes(), edges)


def unite(one, other, edge):
    """Return both networks together with one more edge from one of them to the other one.

    Raise UnknownName if the source of the edge is a node of neither, or else if the target is none of the other one.
    """
    _, source, target, _, _ = edge
    if source not in one.nodes() + other.nodes():
        raise UnknownName(source)
    across = other if source in one.nodes() else one
    if target not in across.nodes():
        raise UnknownName(target)
    return with_parts(one, one.nodes() + other.nodes(), one.edges() + other.edges() + [edge])


def replace_edge(network, name, edges):
    """Return the network with these edges instead of the one; raise UnknownName if there is no such edge."""
    if not network.has_edge(name):
        raise UnknownName(name)
    return with_parts(network, network.nodes(), other_edges(network, name) + edges)


def other_edges(network, name):
    """Return the list of the edges with other names."""
    return [edge for edge in network.edges() if edge[0] != name]


def with_parts(network, nodes, edges):
    """Return a network with the moduli of this one, and with other nodes and edges."""
    return Network(network.modulus(), network.watch(), nodes, edges)


def images(network, f, residues):
    """Return the list of what residues become when f is applied to the numbers that have them."""
    return [apply_map(network.modulus(), f, residue) % network.watch() for residue in residues]
