"""Ports [21] and their texts [22]."""

from nearhelp.checks import are_different, is_between, is_list, is_name, is_pair
from nearhelp.errors import InvalidPorts, InvalidSide, InvalidText

MOST_KINDS = 12
MOST_LETTERS = 4
SIDES = {"2": 2, "3": 3}


class Ports:
    """The ports of a library."""

    def __init__(self, kinds):
        if not _are_kinds(kinds):
            raise InvalidPorts(kinds)
        self.kinds = tuple(kinds)
        # All of this is asked for so often that it is not worked out anew each time.
        self._names = {side: name for name, many in self.kinds for side in _sides_of(name, many)}
        self._sides = sorted(self._names)
        self._sides_by_name = {name: _sides_of(name, many) for name, many in self.kinds}
        self._others = {side: _without(self._sides_by_name[self._names[side]], side) for side in self._sides}

    def __eq__(self, other):
        if not isinstance(other, Ports):
            return False
        return self.kinds == other.kinds

    def sides(self):
        """The ascending list of all sides."""
        return list(self._sides)

    def has(self, value):
        """Whether any value is a side of these ports."""
        return isinstance(value, str) and value in self._names

    def kind(self, side):
        """The name of the port of a side."""
        if not self.has(side):
            raise InvalidSide(side)
        return self._names[side]

    def others(self, side):
        """The ascending tuple of the other sides of the port of a side."""
        if not self.has(side):
            raise InvalidSide(side)
        return self._others[side]

    def sides_of(self, name):
        """The ascending list of the sides of the port with a name."""
        return list(self._sides_by_name[name])

    def text(self):
        """The text of these ports."""
        return "\n".join([f"port {name} {sides}" for name, sides in self.kinds])


def read_ports(text):
    """The ports with a text."""
    if not isinstance(text, str):
        raise InvalidText(text)
    try:
        ports = Ports([_kind_of(line) for line in text.split("\n")])
    except InvalidPorts:
        raise InvalidText(text) from None
    if ports.text() != text:
        raise InvalidText(text)
    return ports


def _sides_of(name, many):
    return [f"{name}{digit}" for digit in range(1, many + 1)]


def _without(sides, side):
    return tuple([other for other in sides if other != side])


def _are_kinds(value):
    if not is_list(value) or not 1 <= len(value) <= MOST_KINDS:
        return False
    return all([_is_kind(item) for item in value]) and are_different([name for name, _ in value])


def _is_kind(value):
    return is_pair(value) and is_name(value[0], MOST_LETTERS) and is_between(value[1], 2, 3)


def _kind_of(line):
    # Nothing is judged here: what a wrong line makes is no kind, or has another text.
    _, _, words = line.partition(" ")
    name, _, sides = words.partition(" ")
    return (name, SIDES.get(sides))
