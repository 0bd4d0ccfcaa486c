"""Runs of nets [101] and their rounds [102]."""

from nearhelp.checks import are_indices, is_index
from nearhelp.errors import Gone, InvalidHand, InvalidOrder, InvalidRound, Stopped
from nearhelp.hands import refused, step


class Run:
    """What has been held and who has stopped in a net, from its beginning on."""

    def __init__(self, net):
        books = [net.library.book(name) for name, _ in net.hands()]
        self.net = net
        self.rounds = 0
        self._processes = [book.process for book in books]
        self._states = [book.states()[index] for book, (_, index) in zip(books, net.hands())]
        self._ends = [net.ends(meeting) for meeting in range(len(net.meetings()))]
        self._held = [None for _ in self._ends]
        self._stopped = [False for _ in books]
        # What each hand refuses now is kept, as it changes only where the hand acts or stops.
        self._refused = [net.standing(hand)[1] for hand in range(len(books))]

    def state(self, hand):
        """The state of a hand."""
        self._check(hand)
        return self._states[hand]

    def standing(self, hand):
        """The standing of a hand, None if it is gone."""
        self._check(hand)
        if self._is_gone(hand):
            return None
        return (self._states[hand][1], self._refused[hand])

    def unheld(self):
        """The ascending list of the meetings that are not held yet."""
        return [meeting for meeting, number in enumerate(self._held) if number is None]

    def ready(self):
        """The ascending list of the meetings that are ready."""
        return [meeting for meeting in self.unheld() if not self._is_refused(meeting)]

    def able(self):
        """The ascending list of the hands that are able."""
        return sorted(set(self._hands_of(self.ready())))

    def stopped(self):
        """The ascending list of the hands that have stopped."""
        return [hand for hand, is_stopped in enumerate(self._stopped) if is_stopped]

    def waiting(self):
        """The ascending list of the hands that are neither gone nor stopped."""
        return [hand for hand, is_stopped in enumerate(self._stopped) if not is_stopped and not self._is_gone(hand)]

    def held(self):
        """The list with, for each meeting, the number of the round in which it was held, or None."""
        return list(self._held)

    def stop(self, hand):
        """Stop a hand: all its ends are refused from now on."""
        self._check(hand)
        if self._is_gone(hand):
            raise Gone(hand)
        if self._stopped[hand]:
            raise Stopped(hand)
        self._stopped[hand] = True
        self._refused[hand] = tuple(sorted(set(self._states[hand][1])))

    def hold(self, chosen):
        """Hold a round."""
        if not self._is_round(chosen):
            raise InvalidRound(chosen)
        self.rounds += 1
        for meeting in chosen:
            self._held[meeting] = self.rounds
            for hand, side in self._ends[meeting]:
                self._act(hand, side)

    def greedy(self, order):
        """The round that takes each ready meeting that it can, in an order of all meetings."""
        if not are_indices(order, len(self._held)) or len(order) != len(self._held):
            raise InvalidOrder(order)
        ready = {meeting: True for meeting in self.ready()}
        busy = {}
        taken = []
        for meeting in order:
            hands = self._hands_of([meeting])
            if meeting in ready and not any([hand in busy for hand in hands]):
                taken.append(meeting)
                busy.update({hand: True for hand in hands})
        return sorted(taken)

    def _check(self, hand):
        if not is_index(hand, len(self._states)):
            raise InvalidHand(hand)

    def _is_gone(self, hand):
        return not self._states[hand][1]

    def _is_refused(self, meeting):
        return any([side in self._refused[hand] for hand, side in self._ends[meeting]])

    def _hands_of(self, meetings):
        """The hands of some meetings, as often as they are hands of one."""
        return [hand for meeting in meetings for hand, _ in self._ends[meeting]]

    def _is_round(self, value):
        """Whether any value is a list of meetings that are a round now."""
        if not are_indices(value, len(self._held)) or not value:
            return False
        hands = self._hands_of(value)
        if any([self._held[meeting] is not None or self._is_refused(meeting) for meeting in value]):
            return False
        busy = {hand: True for hand in hands}
        if len(busy) < len(hands):
            return False
        return all([any([hand in busy for hand in self._hands_of([meeting])]) for meeting in self.ready()])

    def _act(self, hand, side):
        process = self._processes[hand]
        self._states[hand] = step(process, self._states[hand], side)
        self._refused[hand] = refused(process, self._states[hand])
