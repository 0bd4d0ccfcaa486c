"""[131] still counts and weights, [132] nets that stand still, [133] ever."""

import math
import random
import unittest

from nearhelp.counts import laid
from nearhelp.errors import InvalidCounts, InvalidStanding, InvalidWeights
from nearhelp.joins import joined
from nearhelp.libraries import read_library
from nearhelp.nets import Net, surely
from nearhelp.rounds import play
from nearhelp.runs import Run
from nearhelp.stills import ever, is_ever, is_still, is_weights, still, still_net, value_of, weights
from tests import judges, makers
from tests.helpers import any_values, parts_to_any, tuples_to_lists
from tests.judged import JudgedCase, digits
from tests.test_counts import standings_of
from tests.test_joins import FULL, HUNDRED, LONE, MORE, NOBODY, THIRTY
from tests.test_rounds import POLICIES

BOTH = read_library("port p 2\nprocess aid\n begin p1 p2 p2\n refuse p1 if due p2 above 0")
EITHER = read_library("port p 2\nprocess aid\n begin p1 p2 p2\n refuse p1 if due p2 above 1")
RING, LONG, LAST = (("p1", "p2"), ("p1",)), (("p1", "p2", "p2"), ("p1",)), (("p2",), ())
TOLD = ([("p1", 1), ("p2", 1)], [("p", 2)])
# Hands with all three sides, each of which is refused as long as the next one is due, and one more port.
ROUND = read_library("""port p 3
port q 2
process x
 begin p1 p2 p3
 begin q1 q2 q2
 refuse p1 if due p2 above 0
 refuse p2 if due p3 above 0
 refuse q1 if due q2 above 1
process y
 begin p1
 begin p2
 begin p3""")
CLOSED = read_library("port p 2\nprocess x\n begin p1 p2\n refuse p1 if 0 is 0\nprocess y\n begin p1 p1\n refuse p1 if 0 is 0\nprocess z\n begin p2 p2")


class StillsCase(JudgedCase):
    def stills_judged(self, library):
        """Still counts or weights are right, and so is what is told of ever; tell whether some net stands still."""
        text = library.text()
        counts, told = still(library), weights(library=library)
        self.assertEqual([counts is None, told is None].count(True), 1)
        if told is None:
            self.assertTrue(judges.is_still(library, counts) and is_still(library=library, value=counts))
            self.assertEqual(math.gcd(*[number for _, number in counts]), 1)
            self.assertIs(type(counts), list)
        else:
            self.assertTrue(judges.is_weights(library, told) and is_weights(library=library, value=told))
            self.assertEqual(math.gcd(*[number for row in told for _, number in row]), 1)
            self.assertEqual([type(told), type(told[0]), type(told[1])], [tuple, list, list])
        self.assertLess(digits([counts, told]), 301)
        self.ever_judged(library, told is None)
        self.assertEqual(library.text(), text)
        return told is None

    def ever_judged(self, library, stands):
        counts, told = ever(library=library)
        self.assertTrue(judges.is_ever(library, (counts, told)) and is_ever(library=library, value=(counts, told)))
        self.assertEqual([type(counts), type(told), type(told[0]), type(told[1])], [list, tuple, list, list])
        self.assertLess(digits([counts, told]), 301)
        self.assertIs(len(counts) > 0, stands)
        if stands:
            self.assertTrue(judges.is_still(library, counts))
            self.assertEqual(math.gcd(*[number for _, number in counts]), 1)


class StillTest(StillsCase):
    def test_either_answer(self):
        for library, stands in [(BOTH, True), (EITHER, False), (CLOSED, True), (MORE, True), (HUNDRED, True)]:
            self.assertIs(self.stills_judged(library), stands)
        self.assertEqual(ever(BOTH)[0], [(RING, 1)])
        self.assertEqual([standing for standing, _ in ever(MORE)[0]], MORE.standings())

    def test_no_net_at_all(self):
        self.assertEqual([still(LONE), ever(LONE)[0]], [None, []])
        for library, stands in [(LONE, False), (NOBODY, False), (THIRTY, False), (FULL, True), (ROUND, True)]:
            self.assertIs(self.stills_judged(library), stands)

    def test_a_standing_that_is_struck_beside_one_that_stands_still(self):
        closed = read_library("port p 2\nport q 2\nprocess x\n begin p1 q1\n refuse p1 if 0 is 0\nprocess y\n begin p2")
        self.assertIs(self.stills_judged(closed), True)
        wanted = [((("p1",), ("p1",)), 1), (LAST, 1)]
        self.assertEqual([still(closed), ever(closed)[0]], [wanted, wanted])

    def test_random_libraries(self):
        rng, found = random.Random(131), []
        for _ in range(250):
            library = makers.make_any_library(rng)
            found.append(self.stills_judged(library))
        self.assertTrue(60 < sum(found) < 200)

    def test_still_counts_judged(self):
        for library, counts in [(BOTH, [(RING, 3)]), (BOTH, still(BOTH)), (CLOSED, still(CLOSED)), (CLOSED, ever(CLOSED)[0])]:
            self.judged(lambda value: is_still(library, value), lambda value: judges.is_still(library, value), counts)
        for value in [[], (), [(RING, 0)], [(LONG, 1)], [((("p1",), ()), 1), (LONG, 1)], [((("p1",), ()), 1), (RING, 9), (LONG, 1)]]:
            self.assertIs(is_still(BOTH, value), False)
            self.assertIs(judges.is_still(BOTH, value), False)
        self.assertIs(is_still(BOTH, [(RING, 10 ** 399)]), True)
        self.assertIs(is_still(EITHER, [(RING, 3)]), False)

    def test_weights_judged(self):
        more = ([("p1", 5), ("p2", 3)], [("p", 8)])
        for library, told in [(EITHER, TOLD), (EITHER, weights(EITHER)), (EITHER, more), (NOBODY, weights(NOBODY))]:
            self.judged(lambda value: is_weights(library, value), lambda value: judges.is_weights(library, value), told)
        great = 10 ** 399
        self.assertIs(is_weights(EITHER, ([("p1", great), ("p2", great)], [("p", 2 * great)])), True)
        self.assertIs(is_weights(EITHER, ([("p1", great), ("p2", great)], [("p", 2 * great - 1)])), False)
        self.assertIs(is_weights(EITHER, ([("p1", 1), ("p2", 1)], [("p", 3)])), False)
        self.assertIs(is_weights(LONE, ([("p1", 1), ("p2", -9)], [("p", 0)])), True)
        self.assertIs(is_weights(LONE, ([("p1", 1), ("p2", -9)], [("p", -1)])), False)

    def test_ever_judged(self):
        told = ([("p1", 2), ("p2", 2)], [("p", 4)])
        self.assertIs(judges.is_ever(BOTH, ([(RING, 1)], TOLD)), True)
        for library, value in [(BOTH, ever(BOTH)), (BOTH, ([(RING, 7)], told)), (EITHER, ([], TOLD)), (EITHER, ever(EITHER)), (CLOSED, ever(CLOSED))]:
            self.judged(lambda other: is_ever(library, other), lambda other: judges.is_ever(library, other), value)
        self.assertIs(is_ever(BOTH, ([], TOLD)), False)
        # LONG has this value, the other ones are right.
        for worth in [2, 1, 0, -1, -2]:
            value = ([(RING, 1)], ([("p1", 5 - worth), ("p2", worth)], [("p", 5)]))
            self.assertEqual(value_of(BOTH, value[1], LONG), worth)
            self.assertIs(is_ever(BOTH, value), worth > 0)
        great = 10 ** 399
        self.assertIs(is_ever(BOTH, ([(RING, great)], ([("p1", great), ("p2", great)], [("p", 2 * great)]))), True)

    def test_counts_that_do_not_stand_still_are_not_ever(self):
        # All values are 0 by these weights, but the counts that have all standings are no still counts.
        nothing = ([("p1", 0), ("p2", 0)], [("p", 0)])
        counts = joined(EITHER)[0]
        self.assertEqual([standing for standing, _ in counts], EITHER.standings())
        self.assertIs(is_ever(EITHER, (counts, nothing)), False)
        self.assertIs(is_ever(EITHER, ([], nothing)), False)

    def test_equal_libraries_and_new_lists(self):
        for library in [BOTH, EITHER, LONE, CLOSED, FULL, MORE]:
            again = read_library(library.text())
            for call in [still, weights, ever]:
                self.same(call(again), call(library))
                self.new_throughout(lambda: call(library))


class ValueTest(StillsCase):
    def test_values(self):
        self.same([value_of(EITHER, TOLD, row) for row in EITHER.standings()], [1, 2, 1, 1])
        # Of weights that show nothing, too.
        self.same([value_of(BOTH, TOLD, row) for row in BOTH.standings()], [1, 0, 1])
        low = ((("p1", -4), ("p2", 3)), (("p", 0),))
        self.same([value_of(library=BOTH, weights=low, standing=row) for row in BOTH.standings()], [-4, -1, 2])
        great = 10 ** 399
        self.same(value_of(EITHER, ([("p1", great), ("p2", 1)], [("p", 3 * great)]), LONG), 2 - 2 * great)

    def test_random_ones(self):
        rng = random.Random(1311)
        for _ in range(100):
            library = makers.make_any_library(rng)
            sides = [(side, rng.randint(-9, 9)) for side in library.ports.sides()]
            ports = []
            for name, row in judges.port_sides(library).items():
                ports.append((name, max(0, sum(dict(sides)[side] for side in row)) + rng.choice([0, 0, 5])))
            for standing in library.standings():
                self.same(value_of(library, (sides, ports), standing), judges.value_of(library, (sides, ports), standing))
            self.assertIs(is_weights(library, (sides, ports)), judges.is_weights(library, (sides, ports)))

    def test_no_weights(self):
        wrong = any_values() + judges.one_place_changed(TOLD) + [([("p1", 1), ("p2", 1)], [("p", 1)]), ([], []), (TOLD[0], [])]
        for value in wrong:
            if not judges.is_any_weights(EITHER, value):
                self.refuses(InvalidWeights, value, value_of, EITHER, value, LONG)
                self.refuses(InvalidWeights, value, value_of, library=EITHER, weights=value, standing=None)
            else:
                self.same(value_of(EITHER, value, LONG), judges.value_of(EITHER, value, LONG))

    def test_no_standings(self):
        for value in any_values() + tuples_to_lists(LONG) + parts_to_any(LONG) + [RING, (("p2", "p2"), ()), ((), ())]:
            self.refuses(InvalidStanding, value, value_of, EITHER, TOLD, value)
            self.refuses(InvalidStanding, value, value_of, library=EITHER, weights=TOLD, standing=value)


class StillNetTest(StillsCase):
    def check(self, library, counts):
        told = repr(counts)
        net = still_net(library=library, counts=counts)
        self.assertTrue(net.library == library)
        self.assertTrue(Net(library, net.hands(), net.meetings()) == net)
        self.assertTrue(still_net(library, judges.as_tuples(counts)) == net)
        self.same(standings_of(net), standings_of(laid(library, counts)))
        self.same([net.ready(), net.able()], [[], []])
        self.assertEqual(surely(net, []), [None] * len(net.hands()))
        for policy in POLICIES:
            run = Run(net)
            self.assertEqual([play(run, policy), run.rounds], [[None] * len(net.meetings()), 0])
            self.assertEqual(run.waiting(), list(range(len(net.hands()))))
        self.assertEqual(repr(counts), told)

    def test_rings(self):
        for many in [1, 2, 3, 7]:
            self.check(BOTH, [(RING, many)])

    def test_two_hundred_hands_and_more(self):
        self.check(BOTH, [(RING, 100)])
        self.counts(202, still_net, BOTH, [(RING, 101)])
        self.counts(2 * 10 ** 399, still_net, BOTH, ((RING, 10 ** 399),))
        self.check(HUNDRED, still(HUNDRED))
        self.counts(202, still_net, MORE, ever(MORE)[0])
        self.counts(202, still_net, MORE, still(MORE))

    def test_no_still_counts(self):
        wrong = any_values() + [[], (), [(RING, 0)], [(RING, True)], [[RING, 1]], [(LONG, 1)], [(RING, 1), (RING, 1)]]
        wrong += [[((("p1",), ()), 1), (LONG, 1)], [((("p1",), ()), 200), (LONG, 200)], [(RING, 1), (LONG, 1)]]
        for value in wrong:
            self.refuses(InvalidCounts, value, still_net, BOTH, value)
            self.refuses(InvalidCounts, value, still_net, library=BOTH, counts=value)
        counts = [(LAST, 1), ((("p1",), ()), 1)][::-1]
        self.assertTrue(judges.is_counts(EITHER, counts))
        self.refuses(InvalidCounts, counts, still_net, EITHER, counts)

    def test_refused_ends_on_several_sides(self):
        # Of six meetings, two are refused at p1, three at p2, and one at p3: all of these are needed, and no two meet.
        library = read_library(
            "port p 3\nprocess x\n begin p1 p1\n refuse p1 if 0 is 0\nprocess y\n begin p2 p2 p2\n refuse p2 if 0 is 0"
            "\nprocess z\n begin p3\n refuse p3 if 0 is 0\nprocess w\n begin p1\n begin p2\n begin p3 p3"
        )
        counts = [((("p1",), ()), 4), ((("p1", "p1"), ("p1",)), 1), ((("p2",), ()), 3), ((("p2", "p2", "p2"), ("p2",)), 1)]
        rest = [((("p3",), ("p3",)), 1), ((("p3",), ()), 1), ((("p3", "p3"), ()), 2)]
        counts = sorted(counts + rest)
        self.assertTrue(judges.is_still(library, counts))
        self.check(library, counts)
        fewer = [(row, 2 if row == (("p3",), ()) else number) for row, number in counts if row != (("p3",), ("p3",))]
        self.assertTrue(judges.is_counts(library, fewer))
        self.refuses(InvalidCounts, fewer, still_net, library, fewer)

    def test_random_libraries(self):
        rng, tried = random.Random(132), 0
        while tried < 120:
            library = makers.make_any_library(rng)
            if still(library) is None:
                continue
            tried += 1
            for counts in [still(library), ever(library)[0], self.added(still(library), ever(library)[0])]:
                many = max(sides for _, sides in library.ports.kinds) * sum(number for _, number in counts)
                if many > 200:
                    self.counts(many, still_net, library, counts)
                else:
                    self.check(library, counts)

    def added(self, first, second):
        return sorted({row: dict(first).get(row, 0) + dict(second).get(row, 0) for row, _ in first + second}.items())


if __name__ == "__main__":
    unittest.main()
