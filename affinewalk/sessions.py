"""Sessions: a network and a state that actions change, and that can be asked for as they were before."""

from affinewalk.compressed import follow_compressed
from affinewalk.counts import count_reachable
from affinewalk.edits import remove_edge
from affinewalk.errors import NothingLeft, OutOfRange
from affinewalk.exclusions import exclusion
from affinewalk.kinds import is_between, plain_name
from affinewalk.networks import Network
from affinewalk.paths import take_step
from affinewalk.reach import reach
from affinewalk.rows import copy_item, copy_rows


class Session:
    """A network and a state with the actions that have been done since the first ones."""

    def __init__(self, network, state):
        # The networks and the states after the first 0, 1, .. actions.
        self._networks = [copy_of_network(network)]
        self._states = [copy_of_state(state)]
        self._actions = []
        # What was taken back, as tuples (action, network, state), the last one at the end.
        self._undone = []

    def __eq__(self, other):
        if not isinstance(other, Session):
            return False
        return (self._networks[0] == other._networks[0] and self._states[0] == other._states[0]
                and self._actions == other._actions)

    def take(self, step):
        """Take a step (any value); raise InvalidStep if it cannot be taken."""
        after = take_step(self._networks[-1], self._states[-1], step)
        self._act(("step", copy_item(step, 0)), self._networks[-1], after)

    def jump(self, path):
        """Follow a compressed path; raise InvalidPath if it cannot be followed."""
        after = follow_compressed(self._networks[-1], self._states[-1], path)
        self._act(("jump", copy_rows(path, 0)), self._networks[-1], after)

    def remove(self, name):
        """Remove an edge; raise UnknownName if there is none of this name (any value)."""
        left = remove_edge(self._networks[-1], name)
        self._act(("remove", plain_name(name)), left, self._states[-1])

    def undo(self):
        """Take back the last action and return it; raise NothingLeft if there is none."""
        if len(self._actions) == 0:
            raise NothingLeft("undo")
        action = self._actions.pop()
        self._undone.append((action, self._networks.pop(), self._states.pop()))
        return copy_of_action(action)

    def redo(self):
        """Do the action again that was taken back last and return it; raise NothingLeft if there is none."""
        if len(self._undone) == 0:
            raise NothingLeft("redo")
        action, network, state = self._undone.pop()
        self._append(action, network, state)
        return copy_of_action(action)

    def actions(self):
        """Return the list of the actions that stand."""
        return [copy_of_action(action) for action in self._actions]

    def network(self, *, after=None):
        """Return the network after the first actions, or the present one; raise OutOfRange for any other value."""
        return copy_of_network(self._networks[self._moment(after)])

    def state(self, *, after=None):
        """Return the state after the first actions, or the present one; raise OutOfRange for any other value."""
        return self._states[self._moment(after)]

    def reach(self, state):
        """Return a compressed path from the present state in the present network, or None if there is none."""
        return reach(self._networks[-1], self._states[-1], state)

    def exclusion(self):
        """Return an exclusion of the present state in the present network."""
        return exclusion(self._networks[-1], self._states[-1])

    def count_reachable(self):
        """Return the number of states that can be reached from the present one in the present network."""
        return count_reachable(self._networks[-1], self._states[-1])

    def _act(self, action, network, state):
        """Add a new action, after which nothing that was taken back can be done again."""
        self._undone = []
        self._append(action, network, state)

    def _append(self, action, network, state):
        """Add an action with the network and the state after it."""
        self._actions.append(action)
        self._networks.append(network)
        self._states.append(state)

    def _moment(self, after):
        """Return the index of the network and the state after the first actions; raise OutOfRange."""
        if after is None:
            return len(self._actions)
        if not is_between(after, 0, len(self._actions)):
            raise OutOfRange(after)
        return after


def copy_of_network(network):
    """Return an equal network."""
    return Network(network.modulus(), network.watch(), network.nodes(), network.edges())


def copy_of_state(state):
    """Return the state as a plain tuple."""
    node, x = state
    return (plain_name(node), int(x))


def copy_of_action(action):
    """Return the action, a jump with rows of its own."""
    word, what = action
    return (word, copy_rows(what, 0)) if word == "jump" else action
