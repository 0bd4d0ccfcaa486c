"""Nets in which a hand waits as long as is asked [152], and nobody near it is able [153]."""

from nearhelp.errors import TooMany
from nearhelp.joins import own_net
from nearhelp.nets import MOST_HANDS, Net
from nearhelp.trees import refusers


def waiting_net(library, standing, depth):
    """Any net whose hand 0 has a standing and does not act in so many first rounds."""
    return exchanged(library, refusers(library, standing, depth))[0]


def exchanged(library, tree):
    """A net of the own nets of all nodes of a tree, and the list of the hands that are the hands 0 of these.

    The open ends of the hand of a node meet refused ends of the hands of its children. For each child, two meetings
    exchange a hand on one side: that of its parent, and that of its own net. So all hands keep their lots. A hand of
    a node of a depth has this number of ties, at least, to that of the first node, and all others of its own net one
    more: no meeting has hands two apart. It has one with each of its meetings alone, so no meeting is exchanged twice.
    """
    standings = [node[0] for node in tree]
    nets = {standing: own_net(library, standing) for standing in sorted(set(standings))}
    many = sum([len(nets[standing].hands()) for standing in standings])
    if many > MOST_HANDS:
        raise TooMany(many)
    hands, meetings, first = [], [], []
    for standing in standings:
        start = len(hands)
        first.append(start)
        hands.extend(nets[standing].hands())
        meetings.extend([(name, [hand + start for hand in held]) for name, held in nets[standing].meetings()])
    ends = _ends(library.ports, meetings, first)
    for node, (_, parent, at, by) in enumerate(tree):
        if parent is not None:
            _exchange(meetings, library.ports, by, ends[parent][at].pop(), ends[node][by][0])
    return (Net(library, hands, [(name, tuple(held)) for name, held in meetings]), first)


def _ends(ports, meetings, hands):
    """For each of some hands, the meetings of its ends, by sides."""
    ends = {hand: {} for hand in hands}
    for meeting, (name, held) in enumerate(meetings):
        for side, hand in zip(ports.sides_of(name), held):
            if hand in ends:
                ends[hand].setdefault(side, []).append(meeting)
    return [ends[hand] for hand in hands]


def _exchange(meetings, ports, side, first, second):
    """Exchange the hands on a side of two meetings."""
    held, other = meetings[first][1], meetings[second][1]
    place = ports.sides_of(ports.kind(side)).index(side)
    held[place], other[place] = other[place], held[place]
