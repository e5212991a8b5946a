"""Which states can be reached, and compressed paths to them."""

from affinewalk.classes import loop_path
from affinewalk.exclusions import excludes, exclusion
from affinewalk.growing import GrowingTower
from affinewalk.limits import MAX_ITEMS
from affinewalk.maps import apply_map, compose, inverse
from affinewalk.states import class_of
from affinewalk.trees import Tree


def can_reach(network, state, other):
    """Return whether the other state can be reached from the state."""
    return not excludes(network, state, exclusion(network, state), other)


def reach(network, state, other):
    """Return a compressed path from the state to the other one, or None if there is none."""
    tree = Tree(network, state)
    place = class_of(network, other)
    if not tree.holds(place):
        return None
    m = network.modulus()
    tower = home_tower(m, state[1], tree)
    word = tower.word_for_number(apply_map(m, inverse(m, tree.map_to(place)), other[1]))
    return None if word is None else path_of_word(tower, tree, word, place)


def reach_by_map(network, state, place, f):
    """Return a compressed path from the class of the state to the class `place` with the map f, or None."""
    tree = Tree(network, state)
    if not tree.holds(place):
        return None
    m = network.modulus()
    tower = home_tower(m, state[1], tree)
    word = tower.word_for(compose(m, f, inverse(m, tree.map_to(place))))
    return None if word is None else path_of_word(tower, tree, word, place)


def home_tower(m, x, tree):
    """Return the growing tower of the home group, whose origins are the turns of the loops."""
    tower = GrowingTower(m, x)
    for h, turn in tree.loops().items():
        tower.include(h, turn)
    return tower


def path_of_word(tower, tree, word, place):
    """Return the compressed path that follows the word and then the tree path to the place."""
    rows = []
    row_of = {}
    for piece in needed_pieces(tower, word):
        if tower.was_given(piece):
            rows.append(items_of(rows, loop_path(tree, tower.origin(piece)), MAX_ITEMS))
        else:
            rows.append(repetitions(row_of, tower.word(piece)))
        row_of[piece] = len(rows) - 1
    last = repetitions(row_of, word)
    rows.append(last + items_of(rows, tree.path_to(place), MAX_ITEMS - len(last)))
    return rows


def needed_pieces(tower, word):
    """Return the list of the pieces that the word needs, each one behind those that it needs itself."""
    needed = {}
    waiting = [piece for piece, _ in word]
    while len(waiting) > 0:
        piece = waiting.pop()
        if piece not in needed:
            needed[piece] = True
            if not tower.was_given(piece):
                waiting.extend([earlier for earlier, _ in tower.word(piece)])
    return sorted(needed)


def repetitions(row_of, word):
    """Return the items that repeat the rows of the pieces of the word."""
    return [(row_of[piece], exponent) for piece, exponent in word]


def items_of(rows, path, room):
    """Return as many items as there is room for that follow the path; if need be, add rows that they repeat."""
    if len(path) <= room:
        return list(path)
    items = []
    for start in range(0, len(path), MAX_ITEMS):
        rows.append(list(path[start:start + MAX_ITEMS]))
        items.append((len(rows) - 1, 1))
    return items
