"""A second, literal reading of points 19 and 22 to 31, which goes through states and maps one by one.

Nothing here uses the package, except what a network says of its own parts.
"""

import random
from math import gcd

from affinewalk.networks import Network
from tests.support import primes_of


def image(m, f, x):
    return (f[0] * x + f[1]) % m


def both(m, first, second):
    """The map that applies the first one and then the second one."""
    return (first[0] * second[0] % m, (second[0] * first[1] + second[1]) % m)


def back(m, f):
    a = pow(f[0], -1, m)
    return (a, -a * f[1] % m)


def divisor_chain(m):
    found = [1]
    while found[-1] < m:
        found.append(found[-1] * primes_of(m // found[-1])[0])
    return found


def moves(network, state):
    """The steps that can be taken in a state, as tuples (step, state after it, map)."""
    m, watch = network.modulus(), network.watch()
    node, x = state
    found = []
    for name, source, target, f, residues in network.edges():
        if source == node and x % watch in residues:
            found.append(((name, "forward"), (target, image(m, f, x)), f))
        if target == node and image(m, back(m, f), x) % watch in residues:
            found.append(((name, "backward"), (source, image(m, back(m, f), x)), back(m, f)))
    return found


def class_moves(network, place):
    """The steps that can be taken in a class, as tuples (step, class after it, map)."""
    return [(step, (node, x % network.watch()), f) for step, (node, x), f in moves(network, place)]


def distances(network, state):
    """A dict from the states that can be reached to the fewest steps that lead there."""
    return search(state, lambda place: [end for _, end, _ in moves(network, place)])


def class_distances(network, state):
    """A dict from the classes of the part to the fewest steps that lead there."""
    home = (state[0], state[1] % network.watch())
    return search(home, lambda place: [end for _, end, _ in class_moves(network, place)])


def path_maps(network, state):
    """All tuples (class, map) of the paths that start in the class of the state."""
    m = network.modulus()
    home = (state[0], state[1] % network.watch())
    return search((home, (1, 0)), lambda found: [(end, both(m, found[1], f)) for _, end, f in class_moves(network, found[0])])


def home_group(network, state):
    home = (state[0], state[1] % network.watch())
    return {f for place, f in path_maps(network, state) if place == home}


def group(m, maps):
    """All compositions of the maps; with finitely many maps, the inverses are among them."""
    return set(search((1, 0), lambda f: [both(m, f, g) for g in maps]))


def search(start, after):
    found = {start: 0}
    layer = [start]
    while layer:
        fresh = []
        for one in layer:
            for other in after(one):
                if other not in found:
                    found[other] = found[one] + 1
                    fresh.append(other)
        layer = fresh
    return found


def is_number(value, top):
    return type(value) is int and 0 <= value < top


def is_map(m, value):
    return type(value) is tuple and len(value) == 2 and is_number(value[0], m) and is_number(value[1], m) and gcd(value[0], m) == 1


def holds_tower(m, x, value):
    """Point 24."""
    divisors = divisor_chain(m)
    half = len(divisors) - 1
    if type(value) is not list or len(value) != 2 * half:
        return False
    for j, level in enumerate(value):
        if type(level) is not list or not all(is_map(m, r) for r in level) or (1, 0) not in level:
            return False
        if j < half:
            keys = [image(m, r, x) for r in level]
            fits = all((key - x) % divisors[j] == 0 for key in keys)
        else:
            keys = [r[0] for r in level]
            fits = all(image(m, r, x) == x and (r[0] - 1) % divisors[j - half] == 0 for r in level)
        finer = divisors[j % half + 1]
        if not fits or any((keys[k] - keys[i]) % finer == 0 for k in range(len(keys)) for i in range(k)):
            return False
    return True


def holds_sifts(m, x, tower, h, level=0):
    """Point 25, for maps."""
    divisors = divisor_chain(m)
    half = len(divisors) - 1
    for j in range(level, 2 * half):
        if j < half:
            fits = [r for r in tower[j] if (image(m, r, x) - image(m, h, x)) % divisors[j + 1] == 0]
        else:
            fits = [r for r in tower[j] if (r[0] - h[0]) % divisors[j - half + 1] == 0]
        if not fits:
            return False
        h = both(m, h, back(m, fits[0]))
    return h == (1, 0)


def holds_sifts_number(m, x, tower, z):
    """Point 26."""
    divisors = divisor_chain(m)
    for j in range(len(divisors) - 1):
        fits = [r for r in tower[j] if (image(m, r, x) - z) % divisors[j + 1] == 0]
        if not fits:
            return False
        z = image(m, back(m, fits[0]), z)
    return True


def holds_closed(m, x, value):
    """Point 25, for towers."""
    if not holds_tower(m, x, value):
        return False
    return all(holds_sifts(m, x, value, both(m, r, s), i)
               for i in range(len(value)) for r in value[i] for level in value[i:] for s in level)


def is_class(network, value):
    return (type(value) is tuple and len(value) == 2 and type(value[0]) is str and value[0] in network.nodes()
            and is_number(value[1], network.watch()))


def holds_exclusion(network, state, value):
    """Point 28."""
    if type(value) is not tuple or len(value) != 2 or type(value[0]) is not list:
        return False
    return holds_closed(network.modulus(), state[1], value[1]) and holds_entries(network, state, value)


def holds_entries(network, state, value):
    """Point 28, for a tuple of a list and a closed tower."""
    m = network.modulus()
    for entry in value[0]:
        if type(entry) is not tuple or len(entry) != 2 or not is_class(network, entry[0]) or not is_map(m, entry[1]):
            return False
    listed = dict(value[0])
    if len(listed) < len(value[0]) or ((state[0], state[1] % network.watch()), (1, 0)) not in value[0]:
        return False
    sifted = {}
    for place, t in value[0]:
        for _, end, f in class_moves(network, place):
            if end not in listed:
                return False
            h = both(m, both(m, t, f), back(m, listed[end]))
            if h not in sifted:
                sifted[h] = holds_sifts(m, state[1], value[1], h)
            if not sifted[h]:
                return False
    return True


def holds_excludes(network, state, value, other):
    """Point 29, for an exclusion."""
    m = network.modulus()
    place = (other[0], other[1] % network.watch())
    for listed, t in value[0]:
        if listed == place:
            return not holds_sifts_number(m, state[1], value[1], image(m, back(m, t), other[1]))
    return True


def digit_list(m, x):
    """Point 30."""
    divisors = divisor_chain(m)
    return [(x // divisors[j]) % (divisors[j + 1] // divisors[j]) for j in range(len(divisors) - 1)]


def all_states(network):
    return [(node, x) for node in network.nodes() for x in range(network.modulus())]


def random_map(m, chosen):
    a = chosen.randrange(m)
    while gcd(a, m) != 1:
        a = chosen.randrange(m)
    return (a, chosen.randrange(m))


def kind_of_map(m, chosen):
    """A map as networks often have it: also the identity, translations, and maps that keep a number."""
    a, b = random_map(m, chosen)
    if chosen.random() < 0.5:
        a = 1
    if chosen.random() < 0.5:
        b = chosen.choice(divisor_chain(m)) % m
    if chosen.random() < 0.2:
        b = 0
    return (a, b)


def random_network(m, watch, chosen, nodes, many):
    names = ["a", "b", "c", "d", "f", "g", "h", "z"][:nodes]
    edges = []
    for k in range(many):
        residues = chosen.sample(range(watch), chosen.choice([0, 1, watch, chosen.randint(0, watch)]))
        edges.append(("e" + "abcdefghijklmnopqrstuvwxyz"[k], chosen.choice(names), chosen.choice(names), kind_of_map(m, chosen), residues))
    chosen.shuffle(edges)
    return Network(m, watch, names, edges)


def small_networks(seed, count):
    """Networks whose states can be gone through: several parts, loops, parallel edges, empty residues, lone nodes."""
    chosen = random.Random(seed)
    found = [Network(2, 1, ["a"], []), Network(2, 2, ["a"], [("e", "a", "a", (1, 1), [0])]),
             Network(12, 3, ["a", "b"], [("e", "a", "b", (5, 1), []), ("f", "a", "b", (5, 1), [])])]
    while len(found) < count:
        m = chosen.choice([2, 3, 4, 5, 6, 7, 8, 9, 10, 12, 13, 16, 18])
        watch = chosen.choice([d for d in range(1, m + 1) if m % d == 0])
        found.append(random_network(m, watch, chosen, chosen.randint(1, 4), chosen.choice([1, 2, 3, 4, 6])))
    return found


def large_networks():
    """Networks at the limits: eight nodes, 24 edges, great watch moduli, moduli near 10^9."""
    found = []
    sizes = [(10 ** 9, 50), (998400000, 60), (2 ** 29, 32), (3 ** 18, 27), (13 ** 8, 13), (901800900, 60), (60 * 13 ** 6, 60)]
    for m, watch in sizes:
        for many, nodes in ((24, 8), (9, 8), (3, 2)):
            found.append(random_network(m, watch, random.Random(m + many), nodes, many))
    # Edges that can always be taken, and so connect all classes; and all 480 classes in a row.
    chosen = random.Random(4)
    names = ["a", "b", "c", "d", "f", "g", "h", "z"]
    ways = [(names[k % 8], names[(k + 1) % 8]) for k in range(24)]
    edges = [("e" + chr(97 + k), *way, random_map(998400000, chosen), list(range(60))) for k, way in enumerate(ways)]
    found.append(Network(998400000, 60, names, edges))
    row = [("e" + chr(97 + k), names[k], names[k + 1], (1, 1), [59]) for k in range(7)]
    turns = [("t" + name, name, name, (1, 1), list(range(59))) for name in names]
    ends = [("x", "z", "z", (1, 60), [59]), ("y", "z", "z", (121, 60), [59, 58])]
    found.append(Network(998400000, 60, names, row + turns + ends))
    return found
