"""Where the rows of a compressed path lead, from class to class.

Each row is followed at most once from each class in each direction, however often it is repeated.
"""

from affinewalk.paths import try_step
from affinewalk.rows import repeats, reverse_row
from affinewalk.states import class_of


class Walk:
    """A row that is being followed from a class; the place is None once an item cannot be followed."""

    def __init__(self, key, row, place):
        self.key = key
        self.row = row
        self.place = place
        self.done = 0


class RowEnds:
    """The classes to which the items of one compressed path lead in one network.

    A key (index, sign, class) stands for following a row from a class, in the other direction if the sign is -1.
    """

    def __init__(self, network, path):
        self._network = network
        self._path = path
        self._ends = {}
        self._steps = {}

    def after(self, place, item):
        """Return the class after the item and None, or None and the reason why the item cannot be followed."""
        if not repeats(item):
            return self._after_step(place, item)
        self._follow_row(key_of(place, item))
        end = self._after_repetition(place, item)
        return (None, "repetition") if end is None else (end, None)

    def _after_step(self, place, step):
        """Return the class after the step and None, or None and the reason why the step cannot be taken."""
        key = (step, place)
        if key not in self._steps:
            state, fault = try_step(self._network, place, step)
            end = None if state is None else class_of(self._network, state)
            self._steps[key] = (end, fault)
        return self._steps[key]

    def _after_repetition(self, place, item):
        """Return the class after a repetition whose row has been followed, or None if it cannot be followed."""
        end = self._ends[key_of(place, item)]
        if end != place and abs(item[1]) != 1:
            return None
        return end

    def _follow_row(self, key):
        """Follow the row and all rows that it needs first, as far as this has not been done yet."""
        # The rows are kept in a list of their own, so that rows that repeat one another deeply need no deep calls.
        walks = [] if key in self._ends else [self._start(key)]
        while len(walks) > 0:
            missing = self._advance(walks[-1])
            if missing is None:
                done = walks.pop()
                self._ends[done.key] = done.place
            else:
                walks.append(self._start(missing))

    def _start(self, key):
        """Return a walk at the beginning of a row."""
        index, sign, place = key
        row = self._path[index]
        return Walk(key, row if sign == 1 else reverse_row(row), place)

    def _advance(self, walk):
        """Follow the row of the walk to its end; return None, or the key of a row that has to be followed first."""
        while walk.place is not None and walk.done < len(walk.row):
            item = walk.row[walk.done]
            if not repeats(item):
                walk.place = self._after_step(walk.place, item)[0]
            elif key_of(walk.place, item) in self._ends:
                walk.place = self._after_repetition(walk.place, item)
            else:
                return key_of(walk.place, item)
            walk.done += 1
        return None


def key_of(place, item):
    """Return the key of the row that a repetition follows from a class."""
    index, exponent = item
    return (index, 1 if exponent > 0 else -1, place)
