"""Where the rows of a compressed path lead, from class to class.

Each row is followed at most once from each class in each direction, however often it is repeated.
"""

from affinewalk.paths import try_step
from affinewalk.rows import repeats, reverse_row
from affinewalk.states import class_of


class Walk:
    """A row that is being followed from a class; the place is None once an item cannot be followed."""

    def __init__(self, turn, start):
        self.turn = turn
        self.start = start
        self.place = start
        self.done = 0


class RowEnds:
    """The classes to which the items of one compressed path lead in one network.

    A turn (index, sign) stands for a row, in the other direction if the sign is -1. Ends are dicts from the classes in
    which a step or a turn has been tried to the classes to which it leads, or to None if it cannot be followed there.
    """

    def __init__(self, network, path):
        self._network = network
        self._path = path
        self._step_ends = {}
        self._turn_ends = {}
        self._links = {}

    def after(self, place, item):
        """Return the class after the item and None, or None and the reason why the item cannot be followed."""
        if not repeats(item):
            state, fault = try_step(self._network, place, item)
            return (None, fault) if state is None else (class_of(self._network, state), None)
        turn = turn_of(item)
        self._follow(turn, place)
        end = self._turn_ends[turn][place]
        if end is None or (end != place and must_close(item)):
            return None, "repetition"
        return end, None

    def _follow(self, turn, place):
        """Follow the turn from the place, and first whatever it needs, as far as this has not been done yet."""
        # The walks are kept in a list of their own, so that rows that repeat one another deeply need no deep calls.
        walks = [] if place in self._ends_of_turn(turn) else [Walk(turn, place)]
        while len(walks) > 0:
            missing = self._advance(walks[-1])
            if missing is None:
                done = walks.pop()
                self._turn_ends[done.turn][done.start] = done.place
            else:
                walks.append(Walk(missing, walks[-1].place))

    def _advance(self, walk):
        """Follow the row of the walk to its end; return None, or the turn that has to be followed from there first."""
        links = self._links_of(walk.turn)
        while walk.place is not None and walk.done < len(links):
            place = walk.place
            item, ends, closes = links[walk.done]
            if place not in ends:
                if repeats(item):
                    return turn_of(item)
                ends[place], _ = self.after(place, item)
            walk.place = None if closes and ends[place] != place else ends[place]
            walk.done += 1
        return None

    def _links_of(self, turn):
        """Return the list of the items of the turn, as tuples (item, its ends, whether it must end where it starts)."""
        if turn not in self._links:
            index, sign = turn
            row = self._path[index] if sign == 1 else reverse_row(self._path[index])
            self._links[turn] = [(item, self._ends_of(item), must_close(item)) for item in row]
        return self._links[turn]

    def _ends_of(self, item):
        """Return the ends of the step, or of the turn that the item repeats."""
        return self._ends_of_turn(turn_of(item)) if repeats(item) else self._step_ends.setdefault(item, {})

    def _ends_of_turn(self, turn):
        """Return the ends of the turn."""
        return self._turn_ends.setdefault(turn, {})


def turn_of(item):
    """Return the turn that a repetition follows."""
    index, exponent = item
    return (index, 1 if exponent > 0 else -1)


def must_close(item):
    """Return whether the item has to end in the class in which it starts: a row that is repeated more than once."""
    return repeats(item) and abs(item[1]) != 1
