"""[171] harm, [172] stop nets, [173] reach."""

import math
import random
import unittest

from nearhelp.errors import InvalidCount, InvalidDepth, InvalidStanding, InvalidWeights, Near, NearError, NoNet, NotLeft, Still
from nearhelp.exchanges import waiting_net
from nearhelp.joins import left
from nearhelp.libraries import read_library
from nearhelp.nets import Net, surely
from nearhelp.ranks import far
from nearhelp.runs import Run
from nearhelp.stills import is_still, still, weights
from nearhelp.stops import harm, is_harm, most_held, stop_net, stops_far
from nearhelp.trees import refusers
from tests import judges, judges_waits, makers
from tests.helpers import NearCase, any_values
from tests.judged import JudgedCase, digits
from tests.model_nets import RunModel, surely_told
from tests.test_bounds import GREAT, ONE, UNUSED
from tests.test_exchanges import CHAIN, LINE, WIDE
from tests.test_joins import FULL, HUNDRED, LONE, MORE, NOBODY, PLAIN, THIRTY
from tests.test_ranks import ROW
from tests.test_statements import StatementsCase, near
from tests.test_stills import BOTH, CLOSED, EITHER, LAST, LONG, RING, ROUND, TOLD
from tests.test_trees import SIXTY, WAYS, WRONG_DEPTHS
from tests.test_verdicts import ORDER, TWO

A = (("p1",), ())
WRONG_COUNTS = [value for value in any_values() if type(value) is not int or value < 0] + [True, False, -1, -GREAT, "0"]
FOUR = [(A, 2), (LONG, 1)]
HALF = read_library("""port p 2
port q 3
process a
 begin p1
 begin p2
 begin q1
process b
 begin q2
 begin q3
process x
 begin q3 p2 p2
 refuse q3 if due p2 above 1
process y
 begin q1 p1 p1 p1
 refuse q1 if due p1 above 2""")


def held_net(library, running, stopped):
    """A net of hands with these standings, each as often as a port has sides, and the hands that have stopped.

    Ends that are refused, those of the stopped ones all, stand first in the row of their side, and each side's row goes
    on behind where that of the side ahead ends, so that they reach as many meetings as any.
    """
    copies = max(sides for _, sides in library.ports.kinds)
    rows = [(standing, False) for standing, number in running for _ in range(number)]
    rows += [(standing, True) for standing, number in stopped for _ in range(number)]
    meetings = []
    for name, sides in judges.port_sides(library).items():
        table, start = [], 0
        for side in sides:
            ends = [(dead or side in held[1], at) for at, (held, dead) in enumerate(rows) for end in held[0] if end == side]
            first, rest = [at for closed, at in ends if closed], [at for closed, at in ends if not closed]
            row = first + rest
            table.append(row[len(row) - start:] + row[:len(row) - start])
            start = (start + len(first)) % len(row) if row else 0
        for ends in zip(*table):
            for copy in range(copies):
                meetings.append((name, tuple(at * copies + (copy + place) % copies for place, at in enumerate(ends))))
    hands = [library.holders(held)[0] for held, _ in rows for _ in range(copies)]
    net = Net(library, hands, meetings)
    return net, [at * copies + copy for at, (_, dead) in enumerate(rows) if dead for copy in range(copies)]


class HarmCase(JudgedCase):
    def harm_judged(self, library):
        """The harm is right, or the error is; return its part, or the name of the error."""
        text = library.text()
        try:
            told = harm(library=library)
        except NearError as error:
            self.assertIs(type(error), Still if left(library) else NoNet)
            if left(library):
                self.assertTrue(judges.is_still(library, error.counts))
                self.assertIs(type(error.counts), list)
                self.assertLess(digits(error.counts), 301)
            self.assertEqual(still(library) is not None, type(error) is Still)
            self.assertEqual(library.text(), text)
            return type(error).__name__
        self.assertTrue(judges_waits.is_harm(library, told))
        self.assertIs(is_harm(library=library, value=told), True)
        self.assertEqual([type(item) for item in told], [int, int, list, list, int, tuple])
        self.assertEqual([type(item) for item in told[5]], [list, list])
        self.assertEqual(math.gcd(*told[:2]), 1)
        self.assertLess(digits(told), 301)
        self.assertEqual(library.text(), text)
        return told[:2]


class HarmTest(HarmCase):
    def test_each_kind_of_library(self):
        for library, wanted in [(EITHER, (1, 4)), (LONE, "NoNet"), (BOTH, "Still"), (CLOSED, "Still"), (MORE, "Still"), (HUNDRED, "Still"), (ROUND, "Still"), (FULL, "Still")]:
            self.assertEqual(self.harm_judged(library), wanted)
        for library in [ORDER, TWO, ROW, NOBODY, PLAIN, THIRTY, LINE, CHAIN, SIXTY, UNUSED]:
            self.assertIs(type(self.harm_judged(library)), tuple)
        self.assertEqual([self.harm_judged(WAYS), self.harm_judged(WIDE)], ["Still", (1, 8)])
        self.assertEqual(self.harm_judged(HALF), (2, 15))
        # Plain hands alone: each stopped one holds up those it meets.
        self.assertEqual([self.harm_judged(ONE), self.harm_judged(UNUSED)], [(1, 3), (1, 3)])

    def test_a_standing_both_running_and_stopped(self):
        told = harm(EITHER)
        self.assertEqual([told[2], told[3]], [FOUR, [(LONG, 1)]])
        self.assertIs(is_harm(EITHER, (1, 4, FOUR, [(LONG, 1)], 4, TOLD)), True)
        self.assertIs(is_harm(EITHER, (1, 4, [(A, 8), (LONG, 4)], [(LONG, 4)], 8, ([("p1", 2), ("p2", 2)], [("p", 4)]))), True)

    def test_refused_ends_on_both_sides_of_a_port(self):
        # One that has stopped holds up one that it meets at p, and one at q; the one at p holds up one more at q.
        x = "process x\n begin p1 q1\n refuse q1 if due p1 above 0\nprocess y\n begin p2 q2\n refuse q2 if due p2 above 0"
        library = read_library("port p 2\nport q 2\n" + x)
        self.assertEqual(self.harm_judged(library), (1, 4))
        closed = read_library("port p 2\nport q 2\n" + x.replace("if due p1 above 0", "if 0 is 0").replace("if due p2 above 0", "if 0 is 0"))
        self.assertEqual(self.harm_judged(closed), "Still")

    def test_random_libraries(self):
        rng, found = random.Random(171), []
        for _ in range(250):
            found.append(self.harm_judged(makers.make_any_library(rng)))
            found.append(self.harm_judged(makers.make_running_library(rng)))
        for word in ["NoNet", "Still"]:
            self.assertGreater(found.count(word), 20)
        self.assertGreater(len({part for part in found if type(part) is tuple}), 5)

    def test_no_other_part_is_a_harm(self):
        rng = random.Random(1712)
        for _ in range(80):
            library = makers.make_running_library(rng)
            told = harm(library)
            for part in [(1, 1), (1, 2), (1, 3), (1, 4), (2, 5), (1, 9)]:
                self.assertIs(is_harm(library, part + told[2:]), part == told[:2])
            # All stopped: right as a bag, but no weights show it, unless it is the least part.
            counts = sorted({row: dict(told[2]).get(row, 0) + dict(told[3]).get(row, 0) for row, _ in told[2] + told[3]}.items())
            self.assertIs(is_harm(library, (1, 1, [], counts) + told[4:]), told[:2] == (1, 1))

    def test_nets_laid_out_of_it(self):
        rng, found = random.Random(1713), 0
        libraries = [EITHER, ORDER, TWO, ROW, LINE, CHAIN, ONE, UNUSED, HALF]
        for library in libraries + [makers.make_running_library(rng) for _ in range(120)]:
            told = harm(library)
            many = sum(number for _, number in told[2] + told[3]) * max(sides for _, sides in library.ports.kinds)
            if many > 200:
                continue
            found += 1
            net, stopped = held_net(library, told[2], told[3])
            self.assertEqual(surely(net, stopped), [None] * len(net.hands()))
            self.assertEqual(len(stopped) * told[1], len(net.hands()) * told[0])
            run = Run(net)
            for hand in stopped:
                run.stop(hand)
            self.assertEqual(run.ready(), [])
            self.assertEqual(len(run.waiting()), most_held(library, len(stopped)))
        self.assertGreater(found, 100)

    def test_judged(self):
        call = lambda library: lambda value: is_harm(library, value)
        judge = lambda library: lambda value: judges_waits.is_harm(library, value)
        more = ([("p1", 5), ("p2", 5)], [("p", 10)])
        for library, value in [(EITHER, (1, 4, FOUR, [(LONG, 1)], 4, TOLD)), (EITHER, harm(EITHER)), (EITHER, (1, 4, FOUR, [(LONG, 1)], 20, more)), (ORDER, harm(ORDER)), (CHAIN, harm(CHAIN)), (ONE, harm(ONE))]:
            self.judged(call(library), judge(library), value)
        great = 10 ** 399
        value = (1, 4, [(A, 2 * great), (LONG, great)], [(LONG, great)], 4 * great, ([("p1", great), ("p2", great)], [("p", 2 * great)]))
        self.assertIs(is_harm(EITHER, value), True)
        self.assertIs(is_harm(EITHER, value[:2] + ([(A, 2 * great), (LONG, great + 1)],) + value[3:]), False)

    def test_wrong_harms(self):
        right = (1, 4, FOUR, [(LONG, 1)], 4, TOLD)
        for at, wrong in [(0, 2), (1, 8), (0, 0), (0, -1), (1, 0), (2, FOUR[::-1]), (2, FOUR[:1]), (2, []), (3, []), (3, [(LONG, 2)]), (3, [(A, 1)]), (4, 0), (4, 5), (4, 3), (4, -4)]:
            self.assertIs(is_harm(EITHER, right[:at] + (wrong,) + right[at + 1:]), False)
        self.assertIs(is_harm(EITHER, (2, 8) + right[2:]), False)
        self.assertIs(is_harm(EITHER, right[:4] + (0, ([("p1", 0), ("p2", 0)], [("p", 0)]))), False)
        self.assertIs(is_harm(EITHER, list(right)), False)
        for library in [LONE, BOTH, CLOSED]:
            self.assertIs(is_harm(library, right), False)
        # With nothing left, nobody can have stopped.
        self.assertIs(is_harm(LONE, (1, 1, [], [], 1, ([("p1", 1), ("p2", 0)], [("p", 1)]))), False)
        # Still counts beside a stopped hand are no harm, as no weights are above 0 for them.
        for scale in [1, 4]:
            self.assertIs(is_harm(BOTH, (1, 3, [(RING, 2)], [(RING, 1)], scale, TOLD)), False)

    def test_enough_refused_ends(self):
        # Balanced, and just so many stopped, but the meetings are not all held up.
        library = read_library(EITHER.text() + "\nprocess plain\n begin p1\n begin p2")
        counts = [(A, 2), (LAST, 1)]
        told = harm(library)
        self.assertEqual(told[:2], (1, 4))
        self.assertTrue(judges.is_counts(library, [(A, 2), (LAST, 2)]))
        self.assertIs(is_harm(library, (1, 4, counts, [(LAST, 1)]) + told[4:]), False)

    def test_equal_libraries_and_new_lists(self):
        for library in [EITHER, TWO, ROW, CHAIN]:
            self.same(harm(read_library(library.text())), harm(library))
            self.new_throughout(lambda: harm(library))
        found = []
        for library in [BOTH, read_library(BOTH.text()), BOTH]:
            with self.assertRaises(Still) as caught:
                harm(library)
            found.append(caught.exception.counts)
        self.same(found[0], found[1])
        self.assertIsNot(found[0], found[2])
        found[0].clear()
        with self.assertRaises(Still) as caught:
            harm(BOTH)
        self.same(caught.exception.counts, found[1])
        self.assertIs(is_still(BOTH, found[1]), True)


class MostHeldTest(NearCase):
    def test_numbers(self):
        self.same([most_held(EITHER, many) for many in [0, 1, 2, 7]], [0, 3, 6, 21])
        self.same(most_held(library=EITHER, many=GREAT), 3 * GREAT)
        self.same([most_held(ONE, many) for many in [0, 1, 2]], [0, 2, 4])
        for library in [ORDER, TWO, ROW, CHAIN, HALF, UNUSED]:
            top, bottom = harm(library)[:2]
            for many in [0, 1, 2, 3, 5, 9, 100, GREAT, GREAT - 1]:
                self.same(most_held(library, many), (many * (bottom - top) - many * (bottom - top) % top) // top)

    def test_parts_that_do_not_divide(self):
        # Of 15 hands 2 have stopped: one of them holds up 6 others, two hold up 13.
        self.same([most_held(HALF, many) for many in range(6)], [0, 6, 13, 19, 26, 32])
        self.same(most_held(HALF, GREAT), 13 * GREAT // 2)

    def test_errors_in_their_order(self):
        for value in WRONG_COUNTS:
            for library in [EITHER, LONE, BOTH]:
                self.refuses(InvalidCount, value, most_held, library, value)
                self.refuses(InvalidCount, value, most_held, library=library, many=value)
        with self.assertRaises(NearError) as caught:
            most_held(LONE, 0)
        self.assertIs(type(caught.exception), NoNet)
        with self.assertRaises(NearError) as caught:
            most_held(BOTH, 0)
        self.assertIs(type(caught.exception), Still)


class StopNetTest(NearCase):
    def checks(self, library, standing, depth):
        """The net and those that have stopped in it are as the point tells."""
        text = library.text()
        told = stop_net(library=library, standing=standing, depth=depth)
        self.assertEqual([type(told), len(told), type(told[0]), type(told[1])], [tuple, 2, Net, list])
        net, stopped = told
        self.assertTrue(Net(library, net.hands(), net.meetings()) == net)
        self.same(net.standing(0), standing)
        self.assertEqual(len(net.hands()), len(waiting_net(library, standing, depth).hands()))
        self.assertEqual([stopped, all(type(hand) is int for hand in stopped)], [sorted(set(stopped)), True])
        self.assertIsNone(surely(net, stopped)[0])
        ties = net.ties(0)
        self.assertEqual([hand for hand in stopped if ties[hand] is not None and ties[hand] <= depth], [])
        tree, deep, ends = refusers(library, standing, depth), [0], 0
        for node in tree[1:]:
            deep.append(deep[node[1]] + 1)
        for node, far_away in zip(tree, deep):
            ends += len(judges_waits.opens(node[0])) if far_away == depth else 0
        self.assertLessEqual(len(stopped), ends)
        self.assertEqual(library.text(), text)
        return net, stopped

    def test_words(self):
        net, stopped = self.checks(EITHER, LONG, 1)
        self.assertEqual([len(net.hands()), len(stopped)], [12, 4])
        self.assertIsNotNone(surely(net, [])[0])
        for depth in range(6):
            self.checks(EITHER, LAST, depth)
        for library in [LINE, ROW, WIDE, CHAIN, WAYS, ORDER, TWO]:
            for standing in left(library):
                away = far(library, standing)
                for depth in range(6 if away is None else min(away, 5) + 1):
                    try:
                        self.checks(library, standing, depth)
                    except NearError as error:
                        self.assertEqual(type(error).__name__, "TooMany")

    def test_who_waits_for_ever_with_nobody_stopped_so_near(self):
        # By [8] a standing that is d far has a stopped hand within d + 1 ties; here it has none within d.
        for library in [LINE, ROW, CHAIN, ORDER]:
            for standing in left(library):
                away = far(library, standing)
                if away <= 5:
                    net, stopped = self.checks(library, standing, away)
                    self.assertLessEqual(min(net.ties(0)[hand] for hand in stopped if net.ties(0)[hand] is not None), away + 1)

    def test_nobody_needs_to_stop(self):
        closed = (("p1", "p1"), ("p1",))
        net, stopped = self.checks(CLOSED, closed, 3)
        self.assertEqual(stopped, [])
        self.checks(BOTH, RING, 2)

    def test_in_runs(self):
        rng = random.Random(172)
        for library, standing, depth in [(EITHER, LAST, 2), (LINE, A, 3), (CHAIN, LAST, 2), (ROW, LAST, 4), (WIDE, (("p2",), ()), 1)]:
            net, stopped = stop_net(library, standing, depth)
            self.assertEqual(surely_told(net, stopped), surely(net, stopped))
            for _ in range(5):
                run = Run(net)
                for hand in stopped:
                    run.stop(hand)
                while run.ready():
                    run.hold(run.greedy(rng.sample(range(len(net.meetings())), len(net.meetings()))))
                self.assertIn(0, run.waiting())
                self.same(run.standing(0), standing)

    def test_random_libraries(self):
        rng, found = random.Random(1721), {}
        for _ in range(250):
            library = rng.choice([makers.make_any_library, makers.make_part_plain_library])(rng)
            plain = judges_waits.all_plain(library)
            for standing in left(library):
                depth = rng.randint(0, 5)
                try:
                    self.checks(library, standing, depth)
                    found[depth, plain] = found.get((depth, plain), 0) + 1
                except NearError as error:
                    self.assertIn(type(error).__name__, ["Near", "TooMany"])
        self.assertGreater(min(found[depth, plain] for depth in range(5) for plain in [True, False]), 3)

    def test_errors_in_their_order(self):
        struck = (("p1", "q1"), ("p1",))
        for value in any_values():
            self.refuses(InvalidStanding, value, stop_net, EITHER, value, value)
        for depth in [0, 6, None]:
            self.refuses(NotLeft, struck, stop_net, NOBODY, struck, depth)
        for value in WRONG_DEPTHS:
            self.refuses(InvalidDepth, value, stop_net, EITHER, LONG, value)
            self.refuses(InvalidDepth, value, stop_net, library=MORE, standing=MORE.standings()[0], depth=value)
        with self.assertRaises(Near) as caught:
            stop_net(ROW, A, 4)
        self.same(caught.exception.far, 3)
        self.counts(63, stop_net, EITHER, LONG, 5)
        self.counts(202, stop_net, MORE, MORE.standings()[0], 0)
        call = (("p2",) * 3 + ("s2",), ())
        self.counts(sum(1 + len(node[0][0]) for node in refusers(SIXTY, call, 4)), stop_net, SIXTY, call, 4)

    def test_equal_libraries_and_new_lists(self):
        for library, standing, depth in [(EITHER, LAST, 2), (CHAIN, LAST, 1), (ROW, LAST, 5)]:
            net, stopped = stop_net(read_library(library.text()), standing, depth)
            other, again = stop_net(library, standing, depth)
            self.assertEqual([net == other, stopped == again], [True, True])
            again.clear()
            self.same(stop_net(library, standing, depth)[1], stopped)


class ReachTest(NearCase):
    def test_numbers(self):
        # P is 2, and the most ends are 3.
        self.same([stops_far(EITHER, TOLD, many) for many in [0, 1, 2, 3, 100]], [0, 12, 18, 24, 54])
        self.same(stops_far(library=EITHER, weights=TOLD, many=GREAT), 6 * (3 * GREAT).bit_length())
        told = ([("p1", 5), ("p2", 3)], [("p", 8)])
        self.same(stops_far(EITHER, told, 2), 72)

    def test_integers_below_zero_are_left_out(self):
        told = ([("p1", 7), ("p2", 9), ("q1", 20), ("q2", -25)], [("p", 16), ("q", 0)])
        self.assertTrue(judges.is_weights(NOBODY, told))
        top, bottom = harm(NOBODY)[:2]
        for many in [0, 1, 9]:
            held = many * (bottom - top) // top
            self.same(stops_far(NOBODY, told, many), 20 * 2 * (len(bin(held)) - 2) if held else 0)

    def test_random_libraries(self):
        rng = random.Random(173)
        for _ in range(60):
            library = makers.make_running_library(rng)
            told = weights(library)
            sums = [sum(max(0, dict(told[0])[side]) for side in sides) for sides in judges.port_sides(library).values()]
            for many in [0, 1, 5, GREAT]:
                held = most_held(library, many)
                self.same(stops_far(library, told, many), max(sums) * library.most * (len(bin(held)) - 2 if held else 0))

    def test_nobody_can_be_held_up(self):
        library = read_library("port p 2\nprocess x\n begin p1\n begin p2\n refuse p1 if 1 is 0")
        self.same([harm(library)[:2], stops_far(library, weights(library), 1)], [(1, 2), 2])

    def test_errors_in_their_order(self):
        for value in any_values() + [([("p1", 1), ("p2", 1)], [("p", 3)]), ([("p1", 1), ("p2", 1)], [("p", 1)]), (TOLD[0], [])]:
            self.refuses(InvalidWeights, value, stops_far, EITHER, value, None)
            self.refuses(InvalidWeights, value, stops_far, library=BOTH, weights=value, many=1)
        self.refuses(InvalidWeights, TOLD, stops_far, BOTH, TOLD, 1)
        for value in WRONG_COUNTS:
            self.refuses(InvalidCount, value, stops_far, EITHER, TOLD, value)
            self.refuses(InvalidCount, value, stops_far, library=LONE, weights=([("p1", 1), ("p2", 0)], [("p", 1)]), many=value)
        with self.assertRaises(NoNet):
            stops_far(LONE, ([("p1", 1), ("p2", 0)], [("p", 1)]), 1)


class RunsTest(StatementsCase):
    """What [8] says of hands that have stopped, in small nets."""

    def test_how_many_are_held_up_and_how_near_somebody_has_stopped(self):
        rng, found, ratios = random.Random(1731), 0, []
        for library in self.libraries(rng, ["number", "logarithm"], 120):
            told = weights(library)
            for net in self.nets(rng, library, 5, 24):
                run, model = Run(net), RunModel(net)
                many = rng.choice([1, 1, 1, 2, 3])
                for _ in range(many):
                    waiting = run.waiting()
                    if not waiting:
                        continue
                    hand = rng.choice(waiting)
                    run.stop(hand)
                    model.stopped.add(hand)
                    if rng.random() < 0.3 and run.ready():
                        chosen = run.greedy(rng.sample(range(len(net.meetings())), len(net.meetings())))
                        run.hold(chosen)
                        model.hold(chosen)
                while run.ready():
                    chosen = run.greedy(rng.sample(range(len(net.meetings())), len(net.meetings())))
                    run.hold(chosen)
                    model.hold(chosen)
                stopped, waiting = run.stopped(), run.waiting()
                self.assertLessEqual(len(waiting), most_held(library, len(stopped)))
                ratios.append((len(waiting), len(stopped)))
                reach = stops_far(library, told, len(stopped))
                for hand in waiting:
                    ties = near(model, hand)
                    self.assertTrue(any(ties.get(other, reach + 1) <= reach for other in stopped))
                    found += 1
        self.assertGreater(found, 200)
        self.assertGreater(max(waiting for waiting, _ in ratios), 4)


if __name__ == "__main__":
    unittest.main()
