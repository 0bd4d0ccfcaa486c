"""Ports [21] and their texts [22]."""

from nearhelp.checks import are_different, is_between, is_list, is_name, is_pair
from nearhelp.errors import InvalidPorts, InvalidSide, InvalidText

MOST_KINDS = 12
MOST_LETTERS = 4
SIDES = {"2": 2, "3": 3}


class Ports:
    """The ports of a library."""

    def __init__(self, kinds):
        if not _are_kinds(kinds):
            raise InvalidPorts(kinds)
        self.kinds = tuple(kinds)
        self._names = {}
        for name, sides in self.kinds:
            for digit in range(1, sides + 1):
                self._names[f"{name}{digit}"] = name

    def __eq__(self, other):
        if not isinstance(other, Ports):
            return False
        return self.kinds == other.kinds

    def sides(self):
        """The ascending list of all sides."""
        return sorted(self._names)

    def has(self, value):
        """Whether any value is a side of these ports."""
        return isinstance(value, str) and value in self._names

    def kind(self, side):
        """The name of the port of a side."""
        if not self.has(side):
            raise InvalidSide(side)
        return self._names[side]

    def others(self, side):
        """The ascending tuple of the other sides of the port of a side."""
        return tuple([other for other in self.sides_of(self.kind(side)) if other != side])

    def sides_of(self, name):
        """The ascending list of the sides of the port with a name."""
        return [side for side in self.sides() if self._names[side] == name]

    def text(self):
        """The text of these ports."""
        return "\n".join([f"port {name} {sides}" for name, sides in self.kinds])


def read_ports(text):
    """The ports with a text."""
    if not isinstance(text, str):
        raise InvalidText(text)
    try:
        ports = Ports([_kind_of(line) for line in text.split("\n")])
    except InvalidPorts:
        raise InvalidText(text) from None
    if ports.text() != text:
        raise InvalidText(text)
    return ports


def _are_kinds(value):
    if not is_list(value) or not 1 <= len(value) <= MOST_KINDS:
        return False
    return all([_is_kind(item) for item in value]) and are_different([name for name, _ in value])


def _is_kind(value):
    return is_pair(value) and is_name(value[0], MOST_LETTERS) and is_between(value[1], 2, 3)


def _kind_of(line):
    # Nothing is judged here: what a wrong line makes is no kind, or has another text.
    _, _, words = line.partition(" ")
    name, _, sides = words.partition(" ")
    return (name, SIDES.get(sides))
