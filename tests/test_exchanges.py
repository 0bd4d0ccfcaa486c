"""[152] waiting nets, [153] nobody near."""

import random
import unittest

from nearhelp.errors import InvalidDepth, InvalidStanding, Near, NearError, NotLeft
from nearhelp.exchanges import waiting_net
from nearhelp.joins import left, own_net
from nearhelp.libraries import read_library
from nearhelp.nets import Net, surely
from nearhelp.ranks import far
from nearhelp.trees import refusers
from tests import judges_waits, makers
from tests.helpers import NearCase, any_values
from tests.model_nets import first_acts, surely_told, ties_told
from tests.test_joins import HUNDRED, LONE, MORE, NOBODY
from tests.test_ranks import ROW
from tests.test_stills import BOTH, CLOSED, EITHER, LAST, LONG, RING
from tests.test_trees import SIXTY, WAYS, WRONG_DEPTHS

# The example of the interface: a row of ranks.
LINE = read_library("""port p 2
port q 2
process a
 begin p1 q1
 refuse p1 if due q1 above 0
process b
 begin p2 q1
 refuse q1 if due p2 above 0
process c
 begin p2 q2
 refuse p2 if due q2 above 0
process d
 begin q2""")
# Ports of two and of three sides, all of whose sides are plain; x waits for y, and y for x or for itself.
WIDE = read_library("""port p 3
port q 2
process a
 begin p1
 begin p2
 begin p3
process b
 begin q1
 begin q2
process x
 begin p1 q1 q1
 refuse p1 if due q1 above 1
process y
 begin q2 p2 p3
 refuse q2 if both due p2 above 0 due p3 above 0""")
# Nobody uses the port r, so that not all sides are plain.
CHAIN = read_library("""port p 2
port q 2
port r 2
port s 2
process x
 begin p1 q2 q2
 refuse p1 if due q2 above 1
process y
 begin q1 s1
 refuse q1 if due s1 above 0
process z
 begin p2
 begin s2""")


def is_plain(library):
    return judges_waits.all_plain(library)


class ExchangesCase(NearCase):
    def checks(self, library, standing, depth):
        """The net that is returned is as the points tell; return it."""
        text = library.text()
        net = waiting_net(library=library, standing=standing, depth=depth)
        self.assertTrue(Net(library, net.hands(), net.meetings()) == net)
        self.same(net.standing(0), standing)
        tree = refusers(library, standing, depth)
        self.assertEqual(len(net.hands()), sum(len(own_net(library, node[0]).hands()) for node in tree))
        told = surely(net, [])[0]
        self.assertTrue(told is None or told >= depth)
        self.assertEqual(library.text(), text)
        if is_plain(library) and depth >= 1:
            ties = net.ties(0)
            self.assertEqual([hand for hand in net.able() if ties[hand] is not None and ties[hand] <= depth - 1], [])
        return net


class WaitingTest(ExchangesCase):
    def test_rows(self):
        standing = (("p1",), ())
        self.assertEqual([len(self.checks(LINE, standing, depth).hands()) for depth in range(4)], [2, 5, 8, 11])
        self.assertTrue(is_plain(LINE))
        for side in ["p2", "q1", "r2", "s2"]:
            for depth in range(6):
                if far(ROW, ((side,), ())) >= depth:
                    self.checks(ROW, ((side,), ()), depth)

    def test_just_as_far_as_the_depth(self):
        for library in [LINE, ROW]:
            for standing in left(library):
                away = far(library, standing)
                if 1 <= away <= 5:
                    net = self.checks(library, standing, away)
                    # As far as the depth some hand is able: no more could be promised.
                    ties = net.ties(0)
                    self.assertEqual(min(ties[hand] for hand in net.able() if ties[hand] is not None), away)

    def test_all_depths_of_an_endless_one(self):
        for standing, sizes in [(LAST, [2, 6, 14, 30, 62, 126]), (LONG, [4, 12, 28, 60, 124])]:
            self.assertEqual([len(self.checks(EITHER, standing, depth).hands()) for depth in range(len(sizes))], sizes)
        self.counts(63, waiting_net, EITHER, LONG, 5)

    def test_three_sides(self):
        self.assertTrue(is_plain(WIDE))
        for standing in left(WIDE):
            away = far(WIDE, standing)
            for depth in range(6 if away is None else min(away, 5) + 1):
                try:
                    self.checks(WIDE, standing, depth)
                except NearError as error:
                    self.assertEqual(type(error).__name__, "TooMany")

    def test_not_all_plain(self):
        self.assertFalse(is_plain(CHAIN))
        self.assertEqual(far(CHAIN, (("p2",), ())), 2)
        one = len(own_net(CHAIN, (("p2",), ())).hands())
        for depth, nodes in [(0, 1), (1, 2), (2, 4)]:
            self.assertEqual(len(self.checks(CHAIN, (("p2",), ()), depth).hands()), nodes * one)
        with self.assertRaises(Near):
            waiting_net(CHAIN, (("p2",), ()), 3)

    def test_who_stands_still_waits_at_each_depth(self):
        for depth in range(4):
            self.checks(BOTH, RING, depth)
        for standing in left(CLOSED):
            if far(CLOSED, standing) is None:
                self.checks(CLOSED, standing, 0)

    def test_by_trying_all_rounds(self):
        for library, standing, depth in [(LINE, (("p1",), ()), 3), (LINE, (("q2",), ()), 1), (EITHER, LAST, 1), (EITHER, LAST, 2), (CHAIN, (("p2",), ()), 1)]:
            net = waiting_net(library, standing, depth)
            first = first_acts(near_part(net)) if len(net.meetings()) > 14 else first_acts(net)
            self.assertTrue(first[0] is None or first[0] > depth)
            self.assertEqual(surely_told(net, []), surely(net, []))

    def test_two_hundred_hands_and_more(self):
        standings = left(HUNDRED)
        for standing in standings:
            self.assertEqual(len(self.checks(HUNDRED, standing, 0).hands()), 200)
            if far(HUNDRED, standing) is None and judges_waits.opens(standing):
                nodes = len(refusers(HUNDRED, standing, 1))
                self.counts(200 * nodes, waiting_net, HUNDRED, standing, 1)
        for standing in MORE.standings():
            self.counts(202, waiting_net, MORE, standing, 0)
            nodes = judges_waits.least_nodes(MORE, left(MORE), standing, 3)
            self.counts(nodes if nodes > 60 else 202, waiting_net, MORE, standing, 3)
        # Nodes that are not too many, of nets that are not too great, with too many hands together.
        call = (("p2",) * 3 + ("s2",), ())
        for depth in range(5):
            many = sum(1 + len(node[0][0]) for node in refusers(SIXTY, call, depth))
            if depth < 4:
                self.assertEqual(len(self.checks(SIXTY, call, depth).hands()), many)
            else:
                self.counts(many, waiting_net, SIXTY, call, depth)
        text = EITHER.text().replace("port p 2", "port p 3")
        wide, sizes = read_library(text + "\nprocess call\n begin p2 p2 p2 p2\nprocess rest\n begin p3"), []
        for depth in range(4):
            sizes.append(9 + 7 * (len(refusers(wide, (("p2",) * 4, ()), depth)) - 1))
        self.assertEqual(sizes, [9, 37, 93, 205])
        for depth in range(3):
            self.assertEqual(len(self.checks(wide, (("p2",) * 4, ()), depth).hands()), sizes[depth])
        self.counts(205, waiting_net, wide, (("p2",) * 4, ()), 3)

    def test_random_libraries(self):
        rng, found = random.Random(152), {}
        for _ in range(250):
            library = rng.choice([makers.make_any_library, makers.make_part_plain_library])(rng)
            plain = is_plain(library)
            for standing in left(library):
                depth = rng.randint(0, 5)
                try:
                    self.checks(library, standing, depth)
                    found[depth, plain] = found.get((depth, plain), 0) + 1
                except NearError as error:
                    self.assertIn(type(error).__name__, ["Near", "TooMany"])
        self.assertGreater(min(found[depth, plain] for depth in range(5) for plain in [True, False]), 3)

    def test_equal_libraries(self):
        for library, standing, depth in [(EITHER, LAST, 3), (ROW, (("p2",), ()), 5), (WAYS, (("q1",), ()), 3), (CHAIN, LAST, 2)]:
            again = read_library(library.text())
            self.assertTrue(waiting_net(again, standing, depth) == waiting_net(library, standing, depth))

    def test_ties_of_small_nets(self):
        net = waiting_net(LINE, (("p1",), ()), 2)
        self.assertEqual(net.ties(0), ties_told(net)[0])


class ErrorsTest(NearCase):
    def test_errors_in_their_order(self):
        struck = (("p1", "q1"), ("p1",))
        for value in any_values():
            self.refuses(InvalidStanding, value, waiting_net, EITHER, value, value)
            self.refuses(InvalidStanding, value, waiting_net, library=MORE, standing=value, depth=None)
        for depth in [0, 6, None]:
            self.refuses(NotLeft, struck, waiting_net, NOBODY, struck, depth)
            self.refuses(NotLeft, LONE.standings()[0], waiting_net, LONE, LONE.standings()[0], depth)
        for value in WRONG_DEPTHS:
            self.refuses(InvalidDepth, value, waiting_net, EITHER, LONG, value)
            self.refuses(InvalidDepth, value, waiting_net, library=MORE, standing=MORE.standings()[0], depth=value)
        for away, library, standing, depth in [(0, EITHER, (("p1",), ()), 5), (3, ROW, (("p1",), ()), 4)]:
            with self.assertRaises(Near) as caught:
                waiting_net(library, standing, depth)
            self.same(caught.exception.far, away)


def near_part(net):
    """The part of a net that ties lead to from hand 0, as a net."""
    ties = net.ties(0)
    kept = [hand for hand, many in enumerate(ties) if many is not None]
    meetings = [(name, tuple(kept.index(hand) for hand in held)) for name, held in net.meetings() if held[0] in kept]
    return Net(net.library, [net.hands()[hand] for hand in kept], meetings)


if __name__ == "__main__":
    unittest.main()
