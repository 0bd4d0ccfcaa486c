"""[161] bounds by weights, [162] bounds by far."""

import random
import unittest

from nearhelp.bounds import acts_within, halving, log_bound, ready_least, round_least, wait_within
from nearhelp.errors import InvalidCount, InvalidStanding, InvalidWeights, NoNet, NotLeft
from nearhelp.joins import left
from nearhelp.libraries import read_library
from nearhelp.ranks import far, farthest
from nearhelp.runs import Run
from nearhelp.stills import weights
from tests import judges, makers
from tests.helpers import NearCase, any_values
from tests.model_nets import RunModel
from tests.test_exchanges import CHAIN, LINE, WIDE
from tests.test_joins import FULL, LONE, MORE, NOBODY
from tests.test_ranks import ROW
from tests.test_statements import All, StatementsCase, wait_bounds
from tests.test_stills import BOTH, EITHER, TOLD
from tests.test_verdicts import ORDER, TWO

GREAT = 10 ** 399
WRONG_COUNTS = [value for value in any_values() if type(value) is not int or value < 1] + [True, -1, -GREAT, "1", 1.0]
# Two sides and three, of which nobody uses the port of three: H is 3, h is 2.
UNUSED = read_library("port p 2\nport q 3\nprocess x\n begin p1\n begin p2 p2")
ONE = read_library("port p 3\nprocess x\n begin p1\n begin p2\n begin p3")


def up(many, by):
    """The least integer that is at least one divided by the other."""
    return many // by + (many % by > 0)


def sizes(library):
    wide = [sides for _, sides in library.ports.kinds]
    return max(wide), min(wide), max(len(lot) for lot, _ in library.standings())


class WeightsTest(NearCase):
    def checks(self, library, told):
        """All bounds by weights are as the point tells."""
        wide, least, most = sizes(library)
        top = max(number for _, number in told[1])
        before = repr(told)
        beside = 1 + wide * (most - 1)
        half = up(most * beside * top, least)
        self.same([halving(library, told), halving(library=library, weights=judges.as_tuples(told))], [half, half])
        for many in [1, 2, 3, 7, 8, 100, 255, 256, GREAT - 1, GREAT]:
            self.same(ready_least(library=library, weights=told, many=many), up(many, top))
            self.same(round_least(library=library, many=many), up(many, beside))
            digits = len(bin(most * many)) - 2
            self.same(log_bound(library=library, weights=told, many=many), half * digits)
        self.assertEqual(repr(told), before)

    def test_words(self):
        self.checks(EITHER, TOLD)
        self.same([halving(EITHER, TOLD), log_bound(EITHER, TOLD, 1), log_bound(EITHER, TOLD, 8)], [15, 30, 75])
        self.same([ready_least(EITHER, TOLD, many) for many in [1, 2, 3, 4, 7]], [1, 1, 2, 2, 4])
        self.same([round_least(EITHER, many) for many in [1, 5, 6, 10, 11]], [1, 1, 2, 2, 3])
        self.assertEqual([sizes(library) for library in [UNUSED, ONE, WIDE]], [(3, 2, 2), (3, 3, 1), (3, 2, 3)])
        self.same(round_least(ONE, 9), 9)
        for library in [UNUSED, ONE, WIDE, LINE, CHAIN, ROW, ORDER, TWO, NOBODY]:
            if weights(library) is not None:
                self.checks(library, weights(library))

    def test_other_weights(self):
        # At the bound, greater than those that are told, and with integers below 0.
        for told in [([("p1", 2), ("p2", 2)], [("p", 4)]), ([("p1", 5), ("p2", 3)], [("p", 8)]), ([("p1", 1), ("p2", 1)], [("p", 2)])]:
            self.checks(EITHER, told)
        self.checks(EITHER, ([("p1", GREAT), ("p2", GREAT)], [("p", 2 * GREAT)]))
        more = ([("p1", 9), ("p2", 9)], [("p", 18)])
        self.checks(EITHER, more)
        self.same(halving(EITHER, more), 135)
        signs = ([("p1", 7), ("p2", 9), ("q1", 20), ("q2", -25)], [("p", 16), ("q", 0)])
        self.assertTrue(judges.is_weights(NOBODY, signs))
        self.checks(NOBODY, signs)

    def test_the_greatest_integer_of_a_port_counts(self):
        told = ([("p1", 1), ("p2", 1), ("q1", 1), ("q2", 1)], [("p", 2), ("q", 6)])
        library = read_library("port p 2\nport q 2\nprocess x\n begin p1\n begin p2\nprocess y\n begin q1\n begin q2")
        self.same([ready_least(library, told, 13), halving(library, told)], [3, 3])
        self.checks(library, told)

    def test_random_libraries(self):
        rng, found = random.Random(161), 0
        while found < 60:
            library = makers.make_any_library(rng)
            if left(library) and weights(library) is not None:
                found += 1
                self.checks(library, weights(library))


class FarTest(NearCase):
    def test_words(self):
        self.same([[acts_within(EITHER, row) for row in EITHER.standings()], wait_within(EITHER)], [[3, 3, None, None], None])
        self.same([[acts_within(library=ORDER, standing=row) for row in ORDER.standings()], wait_within(library=ORDER)], [[2, 2, 3, 2], 6])
        self.same([acts_within(ONE, (("p1",), ())), wait_within(ONE)], [1, 1])
        self.same([acts_within(LINE, (("p1",), ())), wait_within(LINE)], [5, 10])
        # q is 2 times 2: T is 5, 21, 85 and so on.
        self.same(wait_bounds(WIDE, 2), [5, 21, 85])

    def test_random_libraries(self):
        rng, kinds = random.Random(162), set()
        for library in [WIDE, CHAIN, ROW, UNUSED, FULL] + [makers.make_any_library(rng) for _ in range(120)]:
            bounds = wait_bounds(library, 12)
            kept = left(library)
            for standing in kept:
                away = far(library, standing)
                self.same(acts_within(library, standing), None if away is None else bounds[away])
                kinds.add(away)
            if kept:
                away = farthest(library)
                self.same(wait_within(library), None if away is None else library.most * bounds[away])
        self.assertLessEqual({0, 1, 2, 3, None}, kinds)


class ErrorsTest(NearCase):
    def weight_calls(self):
        return [
            lambda library, weights: ready_least(library, weights, None), halving,
            lambda library, weights: log_bound(library=library, weights=weights, many=0),
        ]

    def no_net(self, call, *args):
        with self.assertRaises(NoNet) as caught:
            call(*args)
        self.assertEqual([type(caught.exception), vars(caught.exception)], [NoNet, {}])

    def test_weights(self):
        wrong = any_values() + judges.one_place_changed(TOLD) + [([("p1", 1), ("p2", 1)], [("p", 3)]), ([], []), None]
        for value in wrong:
            if judges.is_weights(EITHER, value):
                continue
            for call in self.weight_calls():
                self.refuses(InvalidWeights, value, call, EITHER, value)
                self.refuses(InvalidWeights, value, call, library=BOTH, weights=value)
        # Right weights of another library, which stands still.
        for call in self.weight_calls():
            self.refuses(InvalidWeights, TOLD, call, BOTH, TOLD)
            self.no_net(call, LONE, TOLD)

    def test_no_net_comes_before_counts(self):
        told = ([("p1", 1), ("p2", 0)], [("p", 1)])
        wrong = ([("p1", 0), ("p2", 0)], [("p", 1)])
        for call in self.weight_calls():
            self.no_net(call, LONE, told)
            self.refuses(InvalidWeights, wrong, call, LONE, wrong)
        self.no_net(wait_within, LONE)

    def test_counts(self):
        for value in WRONG_COUNTS:
            self.refuses(InvalidCount, value, round_least, EITHER, value)
            self.refuses(InvalidCount, value, round_least, library=LONE, many=value)
            self.refuses(InvalidCount, value, ready_least, EITHER, TOLD, value)
            self.refuses(InvalidCount, value, log_bound, library=EITHER, weights=TOLD, many=value)
        self.same([round_least(LONE, 7), round_least(MORE, 7)], [7, 1])

    def test_standings(self):
        for value in any_values() + [(["p1"], ()), (("p1", "p2"), ("p1",))]:
            self.refuses(InvalidStanding, value, acts_within, EITHER, value)
            self.refuses(InvalidStanding, value, acts_within, library=LONE, standing=value)
        self.refuses(NotLeft, LONE.standings()[0], acts_within, LONE, LONE.standings()[0])


class NetsTest(StatementsCase):
    """The bounds hold in small nets, in all runs or in runs drawn."""

    def test_rounds_have_so_many_meetings(self):
        rng, found = random.Random(1611), set()
        for library in self.libraries(rng, ["number", "logarithm", "ever"], 60):
            for net in self.nets(rng, library, 3, 9):
                for model in All(net).moments.values():
                    ready = len(model.ready())
                    if ready:
                        least = round_least(library, ready)
                        found.add((ready, least))
                        self.assertGreaterEqual(min(len(chosen) for chosen in model.all_rounds()), least)
        self.assertGreater(max(ready for ready, _ in found), 5)

    def test_so_many_meetings_are_ready_and_are_held_so_soon(self):
        rng, tight = random.Random(1612), 0
        for library in self.libraries(rng, ["number", "logarithm"], 60):
            told = weights(library)
            half = halving(library, told)
            for net in self.nets(rng, library, 3, 30):
                run, ends = Run(net), []
                while run.waiting():
                    many = len(run.waiting())
                    self.assertGreaterEqual(len(run.ready()), ready_least(library, told, many))
                    tight += len(run.ready()) == ready_least(library, told, many)
                    ends.append(sum(len(run.state(hand)[1]) for hand in run.waiting()))
                    run.hold(run.greedy(rng.sample(range(len(net.meetings())), len(net.meetings()))))
                ends += [0] * half
                for at in range(run.rounds):
                    self.assertLessEqual(2 * ends[at + half], ends[at])
                self.assertLessEqual(run.rounds, log_bound(library, told, len(net.hands())))
        self.assertGreater(tight, 50)

    def test_who_is_so_far_acts_so_soon(self):
        rng, found = random.Random(1621), 0
        for library in self.libraries(rng, ["number", "logarithm"], 80):
            for net in self.nets(rng, library, 3, 9):
                told = All(net)
                for key, model in told.moments.items():
                    for hand in model.waiting():
                        bound = acts_within(library, model.standing(hand))
                        if bound is not None:
                            self.assertLessEqual(told.waits[key][hand], bound)
                            found += 1
        self.assertGreater(found, 500)

    def test_no_meeting_waits_longer(self):
        rng = random.Random(1622)
        for library in self.libraries(rng, ["number"], 60):
            bound = wait_within(library)
            for net in self.nets(rng, library, 3, 9):
                longest = max(held for model in self.ends_of(net) for held in model.held)
                self.assertLessEqual(longest, bound)

    def ends_of(self, net):
        """The last moments of all runs of a net."""
        wait, seen, found = [RunModel(net)], set(), []
        while wait:
            model = wait.pop()
            key = tuple(model.held)
            if key in seen:
                continue
            seen.add(key)
            rounds = model.all_rounds()
            if not rounds:
                found.append(model)
            for chosen in rounds:
                following = model.copy()
                following.hold(chosen)
                wait.append(following)
        return found


if __name__ == "__main__":
    unittest.main()
