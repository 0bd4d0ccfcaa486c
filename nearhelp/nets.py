"""Nets [91], their ties [92], and how long hands surely do not act in them [93]."""

from nearhelp.checks import are_indices, is_index, is_list, is_pair
from nearhelp.errors import InvalidHand, InvalidHands, InvalidMeetings, InvalidStopped

MOST_HANDS = 200


class Net:
    """Hands in states of the books of a library, and all meetings that are due at them."""

    def __init__(self, library, hands, meetings):
        if not _are_hands(library, hands):
            raise InvalidHands(hands)
        standings = [library.book(name).standing(index) for name, index in hands]
        if not _are_meetings(library.ports, standings, meetings):
            raise InvalidMeetings(meetings)
        self.library = library
        self._hands = list(hands)
        self._meetings = list(meetings)
        self._standings = standings

    def __eq__(self, other):
        if not isinstance(other, Net):
            return False
        return self.library == other.library and self._hands == other._hands and self._meetings == other._meetings

    def hands(self):
        """The list of the names of the processes and the indices of the states of the hands."""
        return list(self._hands)

    def meetings(self):
        """The list of the ports and the hands of the meetings."""
        return list(self._meetings)

    def standing(self, hand):
        """The standing of a hand."""
        self._check(hand)
        return self._standings[hand]

    def due(self, hand):
        """The ascending list of the meetings of a hand."""
        self._check(hand)
        return [index for index, (_, hands) in enumerate(self._meetings) if hand in hands]

    def ends(self, meeting):
        """The list of the hands of a meeting, in order, each with its side."""
        return _ends(self._meetings[meeting])

    def refusing(self, meeting):
        """The list of the hands that refuse a meeting."""
        return [hand for hand, side in self.ends(meeting) if side in self._standings[hand][1]]

    def ready(self):
        """The ascending list of the meetings that are ready."""
        return [meeting for meeting in range(len(self._meetings)) if not self.refusing(meeting)]

    def able(self):
        """The ascending list of the hands that are able."""
        return sorted({hand for meeting in self.ready() for hand in self._meetings[meeting][1]})

    def ties(self, hand):
        """The list with, for each hand, the least number of ties that lead to it from a hand, or None."""
        self._check(hand)
        near = _neighbours(len(self._hands), self._meetings)
        ties = [None for _ in self._hands]
        ties[hand] = 0
        latest = [hand]
        while latest:
            found = []
            for first in latest:
                for second in near[first]:
                    if ties[second] is None:
                        ties[second] = ties[first] + 1
                        found.append(second)
            latest = found
        return ties

    def _check(self, hand):
        if not is_index(hand, len(self._hands)):
            raise InvalidHand(hand)


def surely(net, stopped):
    """The list with, for each hand, the greatest t with the hand in F(t), or None if it never acts."""
    many = len(net.hands())
    if not are_indices(stopped, many):
        raise InvalidStopped(stopped)
    refusing = _refusing(net, stopped)
    due = [net.due(hand) for hand in range(many)]
    last = [0 for _ in range(many)]
    latest = list(range(many))
    rounds = 0
    while True:
        closed = _closed(refusing, latest)
        kept = [hand for hand in latest if all([closed[meeting] for meeting in due[hand]])]
        if kept == latest:
            break
        rounds += 1
        latest = kept
        for hand in latest:
            last[hand] = rounds
    for hand in latest:
        last[hand] = None
    return last


def _refusing(net, stopped):
    """For each meeting, the hands that refuse it when some have stopped.

    As those that have stopped refuse all their own meetings, they are in F(t) for each t without further words.
    """
    told = []
    for meeting, (_, hands) in enumerate(net.meetings()):
        closed = net.refusing(meeting)
        told.append([hand for hand in hands if hand in closed or hand in stopped])
    return told


def _closed(refusing, hands):
    """For each meeting, whether one of these hands refuses it."""
    inside = {hand: True for hand in hands}
    return [any([hand in inside for hand in row]) for row in refusing]


def _neighbours(many, meetings):
    """For each hand, the hands of its meetings."""
    near = [[] for _ in range(many)]
    for _, hands in meetings:
        for hand in hands:
            near[hand].extend(hands)
    return near


def _ends(meeting):
    """The hands of a meeting, each with its side."""
    name, hands = meeting
    return [(hand, f"{name}{at + 1}") for at, hand in enumerate(hands)]


def _are_hands(library, value):
    if not is_list(value) or not 1 <= len(value) <= MOST_HANDS:
        return False
    return all([_is_hand(library, item) for item in value])


def _is_hand(library, value):
    if not is_pair(value) or value[0] not in library.names():
        return False
    return is_index(value[1], len(library.book(value[0]).states()))


def _are_meetings(ports, standings, value):
    if not is_list(value) or not all([_is_meeting(ports, len(standings), item) for item in value]):
        return False
    lots = [[] for _ in standings]
    for meeting in value:
        for hand, side in _ends(meeting):
            lots[hand].append(side)
    return [tuple(sorted(lot)) for lot in lots] == [lot for lot, _ in standings]


def _is_meeting(ports, many, value):
    if not is_pair(value) or not isinstance(value[1], tuple):
        return False
    return (value[0], len(value[1])) in ports.kinds and are_indices(value[1], many)
