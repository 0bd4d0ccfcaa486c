"""Which standings nets have [122], and a net for each of them [124]."""

from nearhelp.bags import are_signs, balance_rows, items_by, listed, sign_of, told_signs
from nearhelp.checks import is_pair
from nearhelp.counts import is_counts, laid
from nearhelp.errors import InvalidStanding, NotLeft
from nearhelp.integers import lowest
from nearhelp.nets import Net
from nearhelp.simplex import strict_pair


def joined(library):
    """Any joining, in whose counts no integer above 1 divides all numbers."""
    ports = library.ports
    standings = library.standings()
    numbers, told = strict_pair(balance_rows(ports, standings))
    return (items_by(standings, lowest(numbers)), listed(ports.sides(), told_signs(ports, lowest(told))))


def is_joined(library, value):
    """Whether any value is a joining."""
    if not is_pair(value) or not is_counts(library, value[0]) or not are_signs(library.ports, value[1]):
        return False
    counted = [standing for standing, _ in value[0]]
    signs = [(standing, sign_of(value[1], standing)) for standing in library.standings()]
    return all([sign >= 0 and (sign == 0) == (standing in counted) for standing, sign in signs])


def left(library):
    """The ascending list of the standings that are left."""
    counts, _ = joined(library)
    return [standing for standing, _ in counts]


def left_with(library, standing):
    """The standings that are left, if a value is one of them."""
    if standing not in library.standings():
        raise InvalidStanding(standing)
    standings = left(library)
    if standing not in standings:
        raise NotLeft(standing)
    return standings


def struck(library):
    """The ascending list of the standings that are not left."""
    kept = left(library)
    return [standing for standing in library.standings() if standing not in kept]


def own_net(library, standing):
    """Any net whose hand 0 has a standing: a star if all sides are plain, otherwise one that has all standings."""
    if standing not in library.standings():
        raise InvalidStanding(standing)
    counts, _ = joined(library)
    if standing not in [counted for counted, _ in counts]:
        raise NotLeft(standing)
    if all([_plain(side) in library.standings() for side in library.ports.sides()]):
        return _star(library, standing)
    net = laid(library, counts)
    return _moved_ahead(net, [net.standing(hand) for hand in range(len(net.hands()))].index(standing))


def _plain(side):
    return ((side,), ())


def _star(library, standing):
    """The net of a hand with a standing and plain hands at the other sides of its ends."""
    hands = [library.holders(standing)[0]]
    meetings = []
    for side in standing[0]:
        ends = {side: 0}
        for other in library.ports.others(side):
            ends[other] = len(hands)
            hands.append(library.holders(_plain(other))[0])
        name = library.ports.kind(side)
        meetings.append((name, tuple([ends[end] for end in library.ports.sides_of(name)])))
    return Net(library, hands, meetings)


def _moved_ahead(net, hand):
    """The same net, with a hand and hand 0 in the place of each other."""
    places = list(range(len(net.hands())))
    places[0], places[hand] = hand, 0
    hands = [net.hands()[place] for place in places]
    meetings = [(name, tuple([places[end] for end in ends])) for name, ends in net.meetings()]
    return Net(net.library, hands, meetings)
