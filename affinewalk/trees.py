"""The classes that can be reached from the class of a state, and a path of the fewest steps to each of them."""

from affinewalk.maps import apply_map, compose, inverse
from affinewalk.paths import BACKWARD, FORWARD
from affinewalk.states import class_of


class Tree:
    """Tree paths from the class of a state to all classes of its part."""

    def __init__(self, network, state):
        self._m = network.modulus()
        self._after = class_steps(network)
        home = class_of(network, state)
        # For each class but the first one the class before it and the last step, on its tree path.
        self._last = {}
        self._maps = {home: (1, 0)}
        farthest = [home]
        while len(farthest) > 0:
            farthest = self._grow_from(farthest)

    def _grow_from(self, places):
        """Give tree paths to the classes one step from the places that have none yet, and return the list of them."""
        fresh = []
        for place in places:
            for step, end, f in self._after.get(place, []):
                if end not in self._maps:
                    self._last[end] = (place, step)
                    self._maps[end] = compose(self._m, self._maps[place], f)
                    fresh.append(end)
        return fresh

    def classes(self):
        """Return the list of the classes of the part, in ascending order."""
        return sorted(self._maps)

    def holds(self, place):
        """Return whether the class is in the part."""
        return place in self._maps

    def map_to(self, place):
        """Return the map of the tree path to a class of the part."""
        return self._maps[place]

    def path_to(self, place):
        """Return the tree path to a class of the part, a tuple of steps."""
        backwards = []
        while place in self._last:
            place, step = self._last[place]
            backwards.append(step)
        return tuple(reversed(backwards))

    def loops(self):
        """Return a dict from the maps of closed paths to tuples (class, step, class after the step).

        The path goes to the class by its tree path, takes the step, and comes back by the other tree path. All these
        maps together generate the home group; of those that are equal only one is kept, and the identity is not.
        """
        backs = {place: inverse(self._m, self._maps[place]) for place in self._maps}
        found = {}
        for place in self.classes():
            for step, end, f in self._after.get(place, []):
                if step[1] == FORWARD:
                    loop = compose(self._m, compose(self._m, self._maps[place], f), backs[end])
                    found.setdefault(loop, (place, step, end))
        return {loop: found[loop] for loop in found if loop != (1, 0)}


def class_steps(network):
    """Return a dict from classes to lists of tuples (step, class after it, map of the step)."""
    m, watch = network.modulus(), network.watch()
    found = {}
    for name, source, target, f, residues in network.edges():
        back = inverse(m, f)
        for residue in residues:
            start = (source, residue)
            end = (target, apply_map(m, f, residue) % watch)
            found.setdefault(start, []).append(((name, FORWARD), end, f))
            found.setdefault(end, []).append(((name, BACKWARD), start, back))
    return found
