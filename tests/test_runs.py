"""[101] runs, [102] rounds."""

import itertools
import random
import unittest

from nearhelp.errors import Gone, InvalidHand, InvalidOrder, InvalidRound, NearError, Stopped
from nearhelp.libraries import Library
from nearhelp.nets import Net
from nearhelp.ports import Ports
from nearhelp.processes import Process
from nearhelp.runs import Run
from tests import makers
from tests.helpers import NearCase, any_values
from tests.model_nets import RunModel, run_told

PORTS = Ports([("p", 2)])


def row_net(many):
    """Hands in a row: the first one has p1, the last one p2, the others both, with p1 refused while p2 is due.

    So the meetings are held one after the other, from the first one on.
    """
    x = Process(PORTS, "x", [("a", 3)], [["p1", "p2"]], [("p2", [("add", "a", 1)])], [("p1", ("above", ("due", "p2"), 0))])
    y = Process(PORTS, "y", [], [["p1"], ["p2"]], [], [])
    library = Library(PORTS, [x, y])
    both = library.book("x").place(((0,), ("p1", "p2")))
    hands = [("y", 0)] + [("x", both)] * (many - 2) + [("y", 1)]
    return Net(library, hands, [("p", (hand, hand + 1)) for hand in range(many - 1)])


def star_net(many):
    """A hand with two ends of p1 and two of p2, and so many such, each joined to the next two, without refusing."""
    library = Library(PORTS, [Process(PORTS, "four", [], [["p1", "p1", "p2", "p2"]], [], [])])
    at = library.book("four").place(((), ("p1", "p1", "p2", "p2")))
    meetings = [("p", (hand, (hand + far) % many)) for far in (1, 2) for hand in range(many)]
    return Net(library, [("four", at)] * many, meetings)


class RunTest(NearCase):
    def test_before_any_round(self):
        net = row_net(4)
        for run in [Run(net), Run(net=net)]:
            self.assertIs(run.net, net)
            self.assertIs(type(vars(run)["rounds"]), int)
            self.same(run_told(run), RunModel(net).told())
            self.same([run.rounds, run.unheld(), run.ready(), run.able()], [0, [0, 1, 2], [0], [0, 1]])
            self.same([run.stopped(), run.waiting(), run.held()], [[], [0, 1, 2, 3], [None, None, None]])
            self.same([run.state(hand=1), run.standing(hand=1)], [((0,), ("p1", "p2")), (("p1", "p2"), ("p1",))])

    def test_rounds_one_after_the_other(self):
        run = Run(row_net(4))
        self.assertIsNone(run.hold([0]))
        self.same([run.rounds, run.held(), run.ready(), run.able()], [1, [1, None, None], [1], [1, 2]])
        self.same([run.state(0), run.standing(0), run.state(1), run.standing(1)], [((), ()), None, ((1,), ("p1",)), (("p1",), ())])
        self.same([run.unheld(), run.waiting()], [[1, 2], [1, 2, 3]])
        self.assertIsNone(run.hold(chosen=(1,)))
        self.assertIsNone(run.hold([2]))
        self.same([run.rounds, run.held(), run.ready(), run.able(), run.waiting()], [3, [1, 2, 3], [], [], []])
        self.same([run.state(hand) for hand in range(4)], [((), ()), ((1,), ()), ((1,), ()), ((), ())])
        self.same([run.standing(hand) for hand in range(4)], [None] * 4)

    def test_stopped_and_gone(self):
        run = Run(row_net(5))
        run.hold([0])
        self.assertIsNone(run.stop(2))
        self.same([run.stopped(), run.waiting(), run.ready(), run.able()], [[2], [1, 3, 4], [], []])
        self.same([run.state(2), run.standing(2)], [((0,), ("p1", "p2")), (("p1", "p2"), ("p1", "p2"))])
        self.assertIsNone(run.stop(hand=4))
        self.same([run.stopped(), run.waiting(), run.standing(4)], [[2, 4], [1, 3], (("p2",), ("p2",))])
        before = run_told(run)
        for hand in [2, 4]:
            self.refuses(Stopped, hand, run.stop, hand)
        self.refuses(Gone, 0, run.stop, 0)
        for chosen in [[], (), [1], (1,)]:
            self.refuses(InvalidRound, chosen, run.hold, chosen=chosen)
        self.same(run_told(run), before)
        self.same(run.greedy([3, 2, 1, 0]), [])

    def test_several_ends_of_one_side_of_a_stopped_hand(self):
        run = Run(star_net(3))
        run.stop(1)
        self.same(run.standing(1), (("p1", "p1", "p2", "p2"), ("p1", "p2")))
        self.same([run.ready(), run.able(), run.waiting()], [[2, 3], [0, 2], [0, 2]])
        run.hold([2])
        run.hold([3])
        self.same([run.ready(), run.held(), run.standing(0)], [[], [None, None, 1, 2, None, None], (("p1", "p2"), ())])

    def test_that_goes_on_behind_a_stop(self):
        run = Run(row_net(6))
        run.hold([0])
        run.stop(4)
        run.hold([1])
        self.same([run.ready(), run.stopped()], [[2], [4]])
        run.hold([2])
        self.same([run.ready(), run.held(), run.waiting()], [[], [1, 2, 3, None, None], [3, 5]])

    def test_no_hands_to_ask_for(self):
        run = Run(row_net(4))
        run.hold([0])
        before = run_told(run)
        for value in [value for value in any_values() if type(value) is not int or not 0 <= value < 4] + [4, -1, True]:
            for call in [run.state, run.standing, run.stop]:
                self.refuses(InvalidHand, value, call, value)
                self.refuses(InvalidHand, value, call, hand=value)
        self.same(run_told(run), before)

    def test_two_runs_of_a_net_and_the_net_itself(self):
        net = star_net(3)
        told = [net.hands(), net.meetings(), net.ready(), [net.standing(hand) for hand in range(3)]]
        first, second = Run(net), Run(net)
        first.hold([0])
        first.stop(2)
        self.same(run_told(second), RunModel(net).told())
        self.assertIs(first.net, second.net)
        second.hold([5])
        self.same([first.held(), second.held()], [[1] + [None] * 5, [None] * 5 + [1]])
        self.same([net.hands(), net.meetings(), net.ready(), [net.standing(hand) for hand in range(3)]], told)

    def test_lists_are_new(self):
        run = Run(row_net(5))
        run.hold([0])
        run.stop(3)
        for give in [run.unheld, run.ready, run.able, run.stopped, run.waiting, run.held, lambda: run.greedy([0, 1, 2, 3])]:
            self.new_lists(give)
        self.same(run.held(), [1, None, None, None])


class HoldTest(NearCase):
    def test_what_is_no_round(self):
        # A ring of six hands, each joined to the next one and the one behind that.
        run = Run(star_net(6))
        wrong = any_values() + [[0, 0], [0, 1], [12], [-1], [True], [0, 2], ["0"], [[0]], 0, [None], list(range(12))]
        wrong += [[0, 2, 4, 4], [0, 2, 4, 12], {0: 0, 2: 2, 4: 4}, [0, 2, True]]
        before = run_told(run)
        for value in wrong:
            self.refuses(InvalidRound, value, run.hold, value)
            self.refuses(InvalidRound, value, run.hold, chosen=value)
        self.same(run_told(run), before)
        run.hold([4, 0, 2])
        self.same([run.rounds, run.held()], [1, [1, None] * 3 + [None] * 6])
        for value in [[0], [0, 2, 4], [1, 3], [6]]:
            self.refuses(InvalidRound, value, run.hold, value)
        run.hold((3, 1, 5))
        self.same(run.held(), [1, 2] * 3 + [None] * 6)

    def test_not_ready(self):
        run = Run(row_net(5))
        for value in [[1], [0, 2], [1, 3], [3]]:
            self.refuses(InvalidRound, value, run.hold, value)
        held = [0]
        run.hold(held)
        self.refuses(InvalidRound, held, run.hold, held)

    def test_lists_of_chosen_are_not_kept(self):
        run, chosen = Run(star_net(6)), [0, 2, 4]
        run.hold(chosen)
        self.same(chosen, [0, 2, 4])
        chosen.append(1)
        self.same(run.held(), [1, None] * 3 + [None] * 6)


class GreedyTest(NearCase):
    def test_orders(self):
        run = Run(star_net(6))
        self.same(run.greedy(list(range(12))), [0, 2, 4])
        self.same(run.greedy(order=tuple(reversed(range(12)))), [2, 10, 11])
        self.same(run.greedy([1] + [at for at in range(12) if at != 1]), [1, 3, 5])
        self.same([run.rounds, run.held()], [0, [None] * 12])

    def test_nothing_ready(self):
        run = Run(row_net(4))
        run.stop(0)
        self.same([run.ready(), run.greedy([0, 1, 2])], [[], []])

    def test_no_orders(self):
        run = Run(row_net(4))
        wrong = any_values() + [[0, 1], [0, 1, 2, 3], [0, 1, 1], [0, 1, True], [0, 1, "2"], [0, 1, -1], [0, 1, 3]]
        wrong += [[0, 1, 2, 2], [[0, 1, 2]], {0: 0, 1: 1, 2: 2}, list(range(2000)), "012", [False, True, 2]]
        for value in wrong:
            self.refuses(InvalidOrder, value, run.greedy, value)
            self.refuses(InvalidOrder, value, run.greedy, order=value)
        order = [2, 1, 0]
        self.same([run.greedy(order), order], [[0], [2, 1, 0]])

    def test_each_round_is_returned_by_some_order(self):
        rng, tried = random.Random(102), 0
        while tried < 40:
            net = makers.make_net(rng, makers.make_library(rng), 3)
            if not 2 <= len(net.meetings()) <= 5:
                continue
            tried += 1
            run, model = Run(net), RunModel(net)
            while model.ready():
                rounds = model.all_rounds()
                found = [run.greedy(list(order)) for order in itertools.permutations(range(len(net.meetings())))]
                self.assertEqual(sorted({tuple(row) for row in found}), [tuple(row) for row in rounds])
                chosen = rng.choice(rounds)
                run.hold(chosen)
                model.hold(chosen)


class RandomTest(NearCase):
    def test_runs_with_stops(self):
        rng, quiet, behind = random.Random(101), 0, 0
        for _ in range(150):
            library = makers.make_library(rng, helping=rng.random() < 0.7)
            net = makers.make_net(rng, library, rng.choice([4, 12]))
            run, model = Run(net), RunModel(net)
            self.same(run_told(run), model.told())
            while model.ready():
                if rng.random() < 0.2:
                    hand = rng.randrange(len(net.hands()))
                    if hand in model.waiting():
                        run.stop(hand)
                        model.stopped.add(hand)
                    else:
                        self.refuses(Stopped if hand in model.stopped else Gone, hand, run.stop, hand)
                    self.same(run_told(run), model.told())
                    continue
                order = rng.sample(range(len(net.meetings())), len(net.meetings()))
                chosen = run.greedy(order)
                self.assertTrue(model.is_round(chosen))
                self.check_others(rng, run, model)
                behind += bool(model.stopped)
                rng.shuffle(chosen)
                run.hold(chosen)
                model.hold(chosen)
                self.same(run_told(run), model.told())
            quiet += bool(model.waiting())
        self.assertGreater(min(quiet, behind), 20)

    def check_others(self, rng, run, model):
        """Some lists of meetings are held just if they are rounds."""
        many = len(run.held())
        before = run_told(run)
        for _ in range(5):
            chosen = rng.sample(range(many), rng.randint(1, min(3, many)))
            if not model.is_round(chosen):
                with self.assertRaises(NearError):
                    run.hold(chosen)
        self.same(run_told(run), before)


if __name__ == "__main__":
    unittest.main()
