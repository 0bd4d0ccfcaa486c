"""[6] to [8]: what the answers say about nets, looked for in small nets by trying all rounds."""

import random
import unittest

from nearhelp.bags import are_items
from nearhelp.errors import NoNet
from nearhelp.joins import joined, left, own_net
from nearhelp.libraries import read_library
from nearhelp.ranks import far, farthest, ranks
from nearhelp.rounds import play
from nearhelp.runs import Run
from nearhelp.stills import still, still_net, weights
from nearhelp.verdicts import verdict
from tests import judges, makers
from tests.helpers import NearCase
from tests.model_nets import RunModel
from tests.test_rounds import POLICIES
from tests.test_verdicts import ORDER, TWO
from tests.test_stills import BOTH, EITHER


def wait_bounds(library, most):
    """T(0), T(1) and so on [8]."""
    wide = max(sides for _, sides in library.ports.kinds)
    q = (wide - 1) * (library.most - 1)
    told = [q + 1]
    for _ in range(most):
        told.append(q * told[-1] + 1)
    return told


def near(model, hand):
    """The hands within ties of a hand, by the meetings that are not held yet: a dict with the numbers of the ties."""
    found, latest = {hand: 0}, [hand]
    while latest:
        first = latest.pop(0)
        for meeting in model.unheld():
            hands = model.meetings[meeting][1]
            if first in hands:
                for other in hands:
                    if other not in found:
                        found[other] = found[first] + 1
                        latest.append(other)
    return found


class All:
    """All moments of all runs of a net, with how long each hand can wait until it acts."""

    def __init__(self, net, stopped=()):
        start = RunModel(net)
        start.stopped = set(stopped)
        self.moments = {}
        self.waits = {}
        self.go(start)

    def key(self, model):
        return tuple(held is None for held in model.held)

    def go(self, model):
        """The longest waits from a moment on, by hands; a hand that never acts is not among them."""
        key = self.key(model)
        if key in self.waits:
            return self.waits[key]
        waits, never = {}, set()
        self.moments[key] = model
        for chosen in model.all_rounds():
            following = model.copy()
            following.hold(chosen)
            later = self.go(following)
            busy = {hand for meeting in chosen for hand in model.meetings[meeting][1]}
            for hand, state in enumerate(model.states):
                if hand in busy:
                    waits[hand] = max(waits.get(hand, 0), 1)
                elif hand in later:
                    waits[hand] = max(waits.get(hand, 0), 1 + later[hand])
                elif state[1]:
                    never.add(hand)
        self.waits[key] = {hand: many for hand, many in waits.items() if hand not in never}
        return self.waits[key]


class StatementsCase(NearCase):
    def libraries(self, rng, words, many):
        """So many libraries whose sides are all plain, with verdicts that have these first items."""
        made = 0
        while made < many:
            library = makers.make_ranked_library(rng) if rng.random() < 0.7 else makers.make_library(rng)
            if verdict(library)[0] in words:
                made += 1
                yield library

    def nets(self, rng, library, many=3, most=9):
        """So many small nets of a library, its own nets among them."""
        found = []
        for _ in range(many):
            net = makers.make_net(rng, library, 4)
            if rng.random() < 0.3:
                net = own_net(library, rng.choice(left(library)))
            if len(net.meetings()) <= most:
                found.append(net)
        return found


class NobodyStopsTest(StatementsCase):
    def test_who_is_so_far_acts_so_soon_and_somebody_near_is_able(self):
        rng, distances = random.Random(8), []
        for library in self.libraries(rng, ["number", "logarithm", "ever"], 120):
            told = {standing: far(library, standing) for standing in left(library)}
            bounds = wait_bounds(library, 12)
            for net in self.nets(rng, library):
                found = All(net)
                for key, model in found.moments.items():
                    able = set(model.able())
                    for hand in model.waiting():
                        away = told[model.standing(hand)]
                        if away is not None:
                            distances.append(away)
                            self.assertLessEqual(found.waits[key][hand], bounds[away])
                            ties = near(model, hand)
                            self.assertTrue(any(ties.get(other, 99) <= away for other in able))
        self.assertLessEqual({0, 1, 2}, set(distances))

    def test_no_net_stands_still_unless_the_answer_is_ever(self):
        rng, able = random.Random(81), 0
        for library in self.libraries(rng, ["number", "logarithm"], 80):
            top = max(number for _, number in weights(library)[1])
            for net in self.nets(rng, library, 3, 14):
                run = Run(net)
                while run.waiting():
                    ready = len(run.ready())
                    able += 1
                    self.assertGreaterEqual(ready * top, len(run.waiting()))
                    run.hold(run.greedy(rng.sample(range(len(net.meetings())), len(net.meetings()))))
                self.assertNotIn(None, run.held())
        self.assertGreater(able, 200)

    def test_values_by_weights_and_ready_meetings(self):
        rng = random.Random(82)
        for library in self.libraries(rng, ["number", "logarithm"], 60):
            told = weights(library)
            tops = dict(told[1])
            for net in self.nets(rng, library, 3, 40):
                worth = sum(judges.value_of(library, told, net.standing(hand)) for hand in range(len(net.hands())))
                self.assertLessEqual(worth, sum(tops[net.meetings()[meeting][0]] for meeting in net.ready()))

    def test_ever_a_net_that_stands_still(self):
        rng = random.Random(83)
        for library in self.libraries(rng, ["ever"], 40):
            net = still_net(library, verdict(library)[1])
            self.assertEqual([RunModel(net).ready(), RunModel(net).all_rounds()], [[], []])
            for policy in POLICIES:
                self.assertEqual(play(Run(net), policy), [None] * len(net.meetings()))
        self.assertEqual([still(library) is None for library in [BOTH, EITHER, ORDER, TWO]], [False, True, True, True])

    def test_the_only_open_end_of_some_standing(self):
        rng, found = random.Random(84), 0
        while found < 80:
            library = makers.make_any_library(rng)
            try:
                word = verdict(library)[0]
            except NoNet:
                continue
            if word != "ever":
                found += 1
                lots = [[side for side in lot if side not in closed] for lot, closed in left(library)]
                for standing in left(library):
                    for side in standing[0]:
                        self.assertIn([side], lots)

    def test_ranks_are_kept_and_the_greatest_one_is_the_farthest(self):
        rng, found = random.Random(85), set()
        for library in self.libraries(rng, ["number"], 60):
            told = dict(ranks(library))
            self.assertTrue(all(judges.keeps(library, standing, told) for standing in left(library)))
            self.assertEqual(max(told.values()), farthest(library))
            found.add(farthest(library))
            # No lesser rank of a single side, the others as they are or lesser, is kept.
            for side, rank in told.items():
                for lesser in range(rank):
                    self.assertFalse(all(judges.keeps(library, row, {**told, side: lesser}) for row in left(library)))
        self.assertLessEqual({0, 1, 2}, found)


class StoppedTest(StatementsCase):
    def test_who_waits_for_ever_has_a_stopped_hand_near(self):
        rng, distances = random.Random(86), []
        for library in self.libraries(rng, ["number", "logarithm", "ever"], 100):
            told = {standing: far(library, standing) for standing in left(library)}
            for net in self.nets(rng, library, 4, 20):
                run, model = Run(net), RunModel(net)
                for _ in range(rng.randint(1, 3)):
                    waiting = run.waiting()
                    if waiting:
                        hand = rng.choice(waiting)
                        run.stop(hand)
                        model.stopped.add(hand)
                    for _ in range(rng.randint(0, 2)):
                        chosen = run.greedy(rng.sample(range(len(net.meetings())), len(net.meetings())))
                        if chosen:
                            run.hold(chosen)
                            model.hold(chosen)
                while run.ready():
                    chosen = run.greedy(rng.sample(range(len(net.meetings())), len(net.meetings())))
                    run.hold(chosen)
                    model.hold(chosen)
                for hand in run.waiting():
                    away = told[run.standing(hand)]
                    if away is not None:
                        distances.append(away)
                        ties = near(model, hand)
                        self.assertTrue(any(ties.get(other, 99) <= away + 1 for other in run.stopped()))
        self.assertLessEqual({0, 1, 2}, set(distances))


class LeftTest(StatementsCase):
    def test_the_standings_of_nets_are_left_and_balanced(self):
        rng = random.Random(87)
        for library in self.libraries(rng, ["number", "logarithm", "ever"], 40):
            kept = left(library)
            for net in self.nets(rng, library, 3, 12):
                model = RunModel(net)
                while model.ready():
                    model.hold(rng.choice(model.all_rounds()))
                    standings = [model.standing(hand) for hand in model.waiting()]
                    bag = sorted({row: standings.count(row) for row in standings}.items())
                    self.assertLessEqual(set(standings), set(kept))
                    self.assertTrue(are_items(library, bag) and judges.is_counts(library, bag))

    def test_what_goes_on_in_a_net_of_all_that_is_left(self):
        rng = random.Random(88)
        for _ in range(60):
            library = makers.make_any_library(rng)
            counts = joined(library)[0]
            if counts and sum(number for _, number in counts) <= 30:
                net = own_net(library, rng.choice(left(library)))
                run = Run(net)
                play(run, rng.choice(POLICIES))
                self.assertLessEqual({run.standing(hand) for hand in run.waiting()}, set(left(library)))
                self.assertTrue(not run.waiting() or still(library) is not None)


class WordsTest(NearCase):
    def test_bounds(self):
        library = read_library("port p 2\nport q 3\nprocess x\n begin p1 p1 q2")
        self.assertEqual(wait_bounds(library, 2), [5, 21, 85])
        self.assertEqual(wait_bounds(ORDER, 1), [2, 3])


if __name__ == "__main__":
    unittest.main()
