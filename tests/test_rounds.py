"""[103] policies, [104] all rounds."""

import random
import unittest

from nearhelp.errors import InvalidPolicy
from nearhelp.libraries import Library
from nearhelp.nets import Net
from nearhelp.ports import Ports
from nearhelp.processes import Process
from nearhelp.rounds import all_rounds, order_by, play
from nearhelp.runs import Run
from tests import makers
from tests.helpers import NearCase, any_values
from tests.model_nets import RunModel, run_told
from tests.test_runs import row_net, star_net

POLICIES = ["first", "last", "turned", "few"]


def order_told(model, policy):
    many = len(model.held)
    if policy == "few":
        due = [sum(len(model.states[hand][1]) for hand in hands) for _, hands in model.meetings]
        return sorted(range(many), key=lambda at: due[at])
    if policy == "turned":
        return [(at + model.rounds) % many for at in range(many)]
    return list(range(many)) if policy == "first" else list(range(many))[::-1]


def pairs_net(many):
    """So many pairs of hands, each with one meeting, so that all are ready and none is beside another one."""
    ports = Ports([("p", 2)])
    library = Library(ports, [Process(ports, "y", [], [["p1"], ["p2"]], [], [])])
    return Net(library, [("y", 0), ("y", 1)] * many, [("p", (2 * at, 2 * at + 1)) for at in range(many)])


class OrderTest(NearCase):
    def test_orders_at_the_beginning(self):
        run = Run(row_net(5))
        self.same([order_by(run, policy) for policy in POLICIES], [[0, 1, 2, 3], [3, 2, 1, 0], [0, 1, 2, 3], [0, 3, 1, 2]])
        self.same(order_by(run=run, policy="few"), [0, 3, 1, 2])

    def test_orders_later(self):
        run = Run(row_net(5))
        run.hold([0])
        run.hold([1])
        # Ends that are due at both hands: none and none, none and 1, 1 and 2, 2 and 1.
        self.same([order_by(run, policy) for policy in POLICIES], [[0, 1, 2, 3], [3, 2, 1, 0], [2, 3, 0, 1], [0, 1, 2, 3]])
        run.hold([2])
        run.hold([3])
        self.same(order_by(run, "turned"), [0, 1, 2, 3])
        self.same(run.rounds, 4)

    def test_stopped_hands_have_ends_that_are_due(self):
        run = Run(row_net(5))
        run.stop(0)
        run.stop(3)
        self.same(order_by(run, "few"), [0, 3, 1, 2])

    def test_no_policies(self):
        run = Run(row_net(4))
        before = run_told(run)
        for value in [value for value in any_values() if value != "first"] + ["First", "few ", ("few",), ["few"], b"few"]:
            for call in [order_by, play]:
                self.refuses(InvalidPolicy, value, call, run, value)
                self.refuses(InvalidPolicy, value, call, run=run, policy=value)
        self.same(run_told(run), before)

    def test_orders_change_nothing_and_are_new(self):
        run = Run(row_net(5))
        for policy in POLICIES:
            self.new_lists(lambda: order_by(run, policy))
        self.same(run_told(run), RunModel(run.net).told())

    def test_random_runs(self):
        rng, different = random.Random(103), set()
        for _ in range(120):
            net = makers.make_net(rng, makers.make_library(rng), 10)
            for policy in POLICIES:
                run, model = Run(net), RunModel(net)
                while model.ready():
                    order = order_told(model, policy)
                    self.same(order_by(run, policy), order)
                    taken = []
                    for at in order:
                        busy = {hand for other in taken for hand in model.meetings[other][1]}
                        if at in model.ready() and not busy & set(model.meetings[at][1]):
                            taken.append(at)
                    model.hold(sorted(taken))
                    run.hold(taken)
                played = Run(net)
                self.same(play(played, policy), model.held)
                self.same(run_told(played), model.told())
                different.add((policy, tuple(model.held)))
        self.assertGreater(len({held for _, held in different}), 150)


class PlayTest(NearCase):
    def test_a_row_has_one_round(self):
        for policy in POLICIES:
            run = Run(row_net(6))
            self.same([play(run=run, policy=policy), run.rounds, run.waiting()], [[1, 2, 3, 4, 5], 5, []])
            self.same([play(run, policy), run.rounds], [[1, 2, 3, 4, 5], 5])

    def test_that_goes_on(self):
        run = Run(row_net(6))
        run.hold([0])
        run.stop(4)
        self.same([play(run, "few"), run.rounds, run.waiting()], [[1, 2, 3, None, None], 3, [3, 5]])
        self.new_lists(lambda: play(run, "last"))

    def test_nothing_ready(self):
        run = Run(row_net(4))
        run.stop(0)
        self.same([[play(run, policy) for policy in POLICIES], run.rounds], [[[None] * 3] * 4, 0])

    def test_two_hundred_hands(self):
        net = star_net(200)
        for policy in POLICIES:
            run = Run(net)
            held = play(run, policy)
            self.assertEqual([None in held, run.waiting(), len(held)], [False, [], 400])
            self.assertTrue(4 <= run.rounds <= 7)
        self.assertEqual(play(Run(row_net(200)), "last"), list(range(1, 200)))


class AllRoundsTest(NearCase):
    def test_twelve_and_thirteen_ready_meetings(self):
        self.same(all_rounds(Run(pairs_net(12))), [list(range(12))])
        self.counts(13, all_rounds, Run(pairs_net(13)))
        self.counts(100, all_rounds, Run(pairs_net(100)))
        self.same(all_rounds(run=Run(star_net(6))), RunModel(star_net(6)).all_rounds())
        self.counts(14, all_rounds, Run(star_net(7)))
        self.counts(400, all_rounds, Run(star_net(200)))
        run = Run(pairs_net(13))
        run.stop(3)
        self.same(all_rounds(run), [[0] + list(range(2, 13))])

    def test_one_ready_and_none(self):
        run = Run(row_net(30))
        self.same(all_rounds(run), [[0]])
        run.stop(1)
        self.same(all_rounds(run), [])
        self.new_lists(lambda: all_rounds(Run(star_net(4))))
        first, second = all_rounds(Run(star_net(4)))[:2]
        first.append(second)
        self.same(all_rounds(Run(star_net(4)))[:1], [first[:-1]])

    def test_random_nets(self):
        rng, many = random.Random(104), set()
        for _ in range(150):
            net = makers.make_net(rng, makers.make_library(rng), 5)
            run, model = Run(net), RunModel(net)
            while model.ready():
                if len(model.ready()) > 10:
                    break
                rounds = all_rounds(run)
                self.same(rounds, model.all_rounds())
                many.add(len(rounds))
                self.same(run_told(run), model.told())
                chosen = rng.choice(rounds)
                run.hold(chosen)
                model.hold(chosen)
        self.assertGreater(max(many), 12)


if __name__ == "__main__":
    unittest.main()
