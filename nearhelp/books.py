"""The finite book of a process [71], and ways through it [72]."""

from nearhelp.checks import is_index
from nearhelp.errors import InvalidIndex, InvalidState, TooMany
from nearhelp.hands import begin_state, refused, standing, step
from nearhelp.states import is_state

MOST_STATES = 40


class Book:
    """All states with something due that the hands of a process can come to."""

    def __init__(self, process):
        ways = _ways(process)
        if len(ways) > MOST_STATES:
            raise TooMany(len(ways))
        self.process = process
        self._states = sorted(list(ways))
        self._standings = [standing(process, state) for state in self._states]
        self._ways = [ways[state] for state in self._states]
        self._places = {state: index for index, state in enumerate(self._states)}

    def states(self):
        """The ascending list of the states."""
        return list(self._states)

    def place(self, state):
        """The index of a state."""
        # Only a state can be looked up: other values may have no hash, or be equal to a state, as True is to 1.
        if not is_state(self.process, state) or state not in self._places:
            raise InvalidState(state)
        return self._places[state]

    def standing(self, index):
        """The standing in the state with an index."""
        self._check(index)
        return self._standings[index]

    def after(self, index, side):
        """The index of the state behind a meeting at a side, None if nothing is due in it."""
        self._check(index)
        state = step(self.process, self._states[index], side)
        return self._places[state] if state[1] else None

    def standings(self):
        """The ascending list of the different standings."""
        return sorted(set(self._standings))

    def way(self, index):
        """A beginning and the sides of meetings that lead from it to the state with an index."""
        self._check(index)
        return self._ways[index]

    def _check(self, index):
        if not is_index(index, len(self._states)):
            raise InvalidIndex(index)


def _ways(process):
    """The shortest way to each state of the book, by states."""
    ways = {}
    for index in range(len(process.begins)):
        ways.setdefault(begin_state(process, index), (index, ()))
    latest = list(ways)
    while latest:
        found = []
        for state in latest:
            found.extend(_ways_on(process, state, ways[state]))
        latest = []
        for state, way in found:
            if state not in ways:
                ways[state] = way
                latest.append(state)
    return ways


def _ways_on(process, state, way):
    """The states with something due that one meeting makes of a state, each with the way to it."""
    begin, sides = way
    closed = refused(process, state)
    found = []
    for side in sorted(set(state[1])):
        if side not in closed:
            found.append((step(process, state, side), (begin, sides + (side,))))
    return [item for item in found if item[0][1]]
