"""What nets and runs mean [5], [91] to [104], told a second time, point by point."""

import itertools

from tests.model import Model


class RunModel:
    """A net as it goes on: states, who has stopped, and in which round each meeting was held."""

    def __init__(self, net):
        library = net.library
        self.meetings = net.meetings()
        self.models = [Model(library.book(name).process) for name, _ in net.hands()]
        self.states = [library.book(name).states()[index] for name, index in net.hands()]
        self.stopped = set()
        self.held = [None] * len(self.meetings)
        self.rounds = 0
        self.known = {}

    def copy(self):
        other = RunModel.__new__(RunModel)
        other.__dict__ = dict(self.__dict__, states=list(self.states), stopped=set(self.stopped), held=list(self.held))
        return other

    def refused(self, hand):
        lot = self.states[hand][1]
        if hand in self.stopped:
            return tuple(sorted(set(lot)))
        key = (hand, self.states[hand])
        if key not in self.known:
            self.known[key] = self.models[hand].refused(self.states[hand])
        return self.known[key]

    def standing(self, hand):
        return (self.states[hand][1], self.refused(hand)) if self.states[hand][1] else None

    def is_ready(self, meeting):
        name, hands = self.meetings[meeting]
        return all(f"{name}{at}" not in self.refused(hand) for at, hand in enumerate(hands, start=1))

    def unheld(self):
        return [meeting for meeting, held in enumerate(self.held) if held is None]

    def ready(self):
        return [meeting for meeting in self.unheld() if self.is_ready(meeting)]

    def able(self):
        return sorted({hand for meeting in self.ready() for hand in self.meetings[meeting][1]})

    def waiting(self):
        return [hand for hand, state in enumerate(self.states) if state[1] and hand not in self.stopped]

    def is_round(self, chosen):
        ready = self.ready()
        busy = [set(self.meetings[meeting][1]) for meeting in chosen]
        if not chosen or len(set(chosen)) < len(chosen) or not set(chosen) <= set(ready):
            return False
        if any(first & second for first, second in itertools.combinations(busy, 2)):
            return False
        return all(any(row & set(self.meetings[meeting][1]) for row in busy) for meeting in ready)

    def all_rounds(self):
        ready = self.ready()
        found = [list(row) for many in range(len(ready) + 1) for row in itertools.combinations(ready, many)]
        return sorted(row for row in found if self.is_round(row))

    def hold(self, chosen):
        self.rounds += 1
        for meeting in chosen:
            self.held[meeting] = self.rounds
            name, hands = self.meetings[meeting]
            for at, hand in enumerate(hands, start=1):
                self.states[hand] = self.models[hand].step(self.states[hand], f"{name}{at}")

    def told(self):
        """All that a run tells."""
        hands = range(len(self.states))
        return [
            self.rounds, self.held, self.states, [self.standing(hand) for hand in hands], self.unheld(), self.ready(),
            self.able(), sorted(self.stopped), self.waiting(),
        ]


def run_told(run):
    """The same of a run of the package."""
    hands = range(len(run.net.hands()))
    return [
        run.rounds, run.held(), [run.state(hand) for hand in hands], [run.standing(hand) for hand in hands],
        run.unheld(), run.ready(), run.able(), run.stopped(), run.waiting(),
    ]


def ties_told(net):
    """The ties between all hands, by shortening ways over each hand."""
    hands = range(len(net.hands()))
    far = [[0 if first == second else None for second in hands] for first in hands]
    for _, row in net.meetings():
        for first, second in itertools.permutations(row, 2):
            far[first][second] = 1
    for middle in hands:
        for first in hands:
            for second in hands:
                if far[first][middle] is not None and far[middle][second] is not None:
                    way = far[first][middle] + far[middle][second]
                    if far[first][second] is None or way < far[first][second]:
                        far[first][second] = way
    return far


def surely_told(net, stopped):
    """surely [93] by F(0), F(1) and so on, as the point has them."""
    hands = range(len(net.hands()))
    ends = [[(hand, f"{name}{at}") for at, hand in enumerate(row, start=1)] for name, row in net.meetings()]
    inside = [set(hands)]
    for _ in range(len(hands) + 1):
        latest, found = inside[-1], set(stopped)
        for hand in hands:
            mine = [row for row in ends if hand in [other for other, _ in row]]
            if all(any(o in latest and (o in stopped or side in net.standing(o)[1]) for o, side in row) for row in mine):
                found.add(hand)
        inside.append(found)
    return [None if hand in inside[-1] else max(t for t, row in enumerate(inside) if hand in row) for hand in hands]


def first_acts(net, stopped=()):
    """For each hand, the first round in which it acts in some run, by trying all rounds; None if it never acts."""
    start = RunModel(net)
    start.stopped = set(stopped)
    first = [None] * len(start.states)
    wait, seen = [start], set()
    while wait:
        model = wait.pop()
        key = (model.rounds, tuple(held is None for held in model.held))
        if key in seen:
            continue
        seen.add(key)
        for chosen in model.all_rounds():
            following = model.copy()
            following.hold(chosen)
            wait.append(following)
            for hand in {hand for meeting in chosen for hand in model.meetings[meeting][1]}:
                if first[hand] is None or first[hand] > following.rounds:
                    first[hand] = following.rounds
    return first
