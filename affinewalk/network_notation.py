"""The text of a network, one line for each of its parts."""

from affinewalk.arithmetic import is_modulus
from affinewalk.errors import InvalidText
from affinewalk.limits import MAX_EDGES, MAX_MODULUS, MAX_NODES, MAX_WATCH
from affinewalk.maps import is_map
from affinewalk.networks import Network
from affinewalk.kinds import is_name, read_number


def format_network(network):
    """Return the text of a network."""
    lines = [f"modulus {network.modulus()}", f"watch {network.watch()}"]
    lines.extend([f"node {node}" for node in network.nodes()])
    lines.extend([format_edge(edge) for edge in network.edges()])
    return "\n".join(lines)


def format_edge(edge):
    """Return the line of an edge."""
    name, source, target, f, residues = edge
    a, b = f
    words = [f"edge {name} {source} {target} {a} {b} when"]
    words.extend([str(residue) for residue in residues])
    return " ".join(words)


def parse_network(text):
    """Return the network that has this text; raise InvalidText for any other value."""
    if not isinstance(text, str):
        raise InvalidText(0)
    lines = text.split("\n")
    network, end = read_network(lines)
    if end < len(lines):
        raise InvalidText(end)
    return network


def read_network(lines):
    """Return the network that the lines begin with, as far as it goes, and the number of its lines.

    Raise InvalidText if they begin with none. Whatever valid line is read, a network goes on from it. So the first
    line that cannot be read is the first one up to which no network's text goes.
    """
    modulus = read_modulus(line_at(lines, 0))
    if modulus is None:
        raise InvalidText(0)
    watch = read_watch(line_at(lines, 1), modulus)
    if watch is None:
        raise InvalidText(1)
    nodes = read_nodes(lines, 2)
    if nodes == []:
        raise InvalidText(2)
    edges = read_edges(lines, 2 + len(nodes), modulus, watch, nodes)
    return Network(modulus, watch, nodes, edges), 2 + len(nodes) + len(edges)


def line_at(lines, index):
    """Return the line with this index; behind the last one an empty line, which no text contains."""
    return lines[index] if index < len(lines) else ""


def behind_label(line, label):
    """Return what stands behind the label and one space; an empty text if the line does not begin with them."""
    word, _, rest = line.partition(" ")
    return rest if word == label else ""


def read_modulus(line):
    """Return the modulus of a line, or None."""
    modulus = read_number(behind_label(line, "modulus"), MAX_MODULUS)
    return modulus if is_modulus(modulus) else None


def read_watch(line, modulus):
    """Return the watch modulus of a line, or None if it is none for this modulus."""
    watch = read_number(behind_label(line, "watch"), MAX_WATCH)
    if watch is None or watch == 0 or modulus % watch != 0:
        return None
    return watch


def read_nodes(lines, start):
    """Return the nodes of the lines from start on, up to the first line that cannot be one more node."""
    nodes = []
    last = ""
    while len(nodes) < MAX_NODES:
        node = behind_label(line_at(lines, start + len(nodes)), "node")
        if not is_name(node) or node <= last:
            break
        nodes.append(node)
        last = node
    return nodes


def read_edges(lines, start, modulus, watch, nodes):
    """Return the edges of the lines from start on, up to the first line that cannot be one more edge."""
    edges = []
    last = ""
    while len(edges) < MAX_EDGES:
        edge = read_edge(line_at(lines, start + len(edges)), modulus, watch, nodes)
        if edge is None or edge[0] <= last:
            break
        edges.append(edge)
        last = edge[0]
    return edges


def read_edge(line, modulus, watch, nodes):
    """Return the edge of a line, or None if it is none between these nodes."""
    words = line.split(" ")
    if len(words) < 7 or words[0] != "edge" or words[6] != "when":
        return None
    name, source, target = words[1:4]
    if not is_name(name) or name in nodes or source not in nodes or target not in nodes:
        return None
    f = (read_number(words[4], modulus - 1), read_number(words[5], modulus - 1))
    residues = read_residues(words[7:], watch)
    if not is_map(modulus, f) or residues is None:
        return None
    return (name, source, target, f, residues)


def read_residues(words, watch):
    """Return the residues that the words write in ascending order, or None."""
    residues = []
    last = -1
    for word in words:
        residue = read_number(word, watch - 1)
        if residue is None or residue <= last:
            return None
        residues.append(residue)
        last = residue
    return residues
