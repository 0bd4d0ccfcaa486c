"""The examples of the interface of the stages 14 to 17."""

import unittest

from tests.examples import ExamplesCase

TREES = r"""
>>> from nearhelp.libraries import read_library
>>> from nearhelp.trees import is_refusers, refusers
>>> either = read_library("port p 2\nprocess aid\n begin p1 p2 p2\n refuse p1 if due p2 above 1")
>>> call, aid = (("p2",), ()), (("p1", "p2", "p2"), ("p1",))
>>> refusers(either, call, 1)
[((('p2',), ()), None, None, None), ((('p1', 'p2', 'p2'), ('p1',)), 0, 'p2', 'p1')]
>>> [[len(refusers(either, call, depth)) for depth in range(6)], len(refusers(either, aid, 4))]
[[1, 2, 4, 8, 16, 32], 31]
>>> tree = [(call, None, None, None), (aid, 0, "p2", "p1"), (aid, 1, "p2", "p1"), (aid, 1, "p2", "p1")]
>>> [is_refusers(either, call, depth, tree) for depth in range(4)]
[False, False, True, False]
>>> [is_refusers(either, call, 2, tree[:3]), is_refusers(either, aid, 2, tree), is_refusers(either, call, 2, None)]
[False, False, False]
>>> refusers(either, aid, 5)
raises TooMany(63)
>>> refusers(either, (("p1",), ()), 1)
raises Near(0)
>>> refusers(either, call, 6)
raises InvalidDepth(6)
>>> refusers(either, (("p2",), ("p2",)), 6)
raises InvalidStanding((('p2',), ('p2',)))
>>> lone = read_library("port p 2\nprocess z\n begin p1")
>>> is_refusers(lone, (("p1",), ()), 0, [((("p1",), ()), None, None, None)])
raises NotLeft((('p1',), ()))
"""

EXCHANGES = r"""
>>> from nearhelp.exchanges import waiting_net
>>> from nearhelp.libraries import read_library
>>> from nearhelp.nets import surely
>>> from nearhelp.ranks import far
>>> a, b = "process a\n begin p1 q1\n refuse p1 if due q1 above 0", "process b\n begin p2 q1\n refuse q1 if due p2 above 0"
>>> c, d = "process c\n begin p2 q2\n refuse p2 if due q2 above 0", "process d\n begin q2"
>>> row = read_library("port p 2\nport q 2\n" + a + "\n" + b + "\n" + c + "\n" + d)
>>> far(row, (("p1",), ()))
3
>>> net = waiting_net(row, (("p1",), ()), 3)
>>> [len(net.hands()), net.standing(0), surely(net, [])[0]]
[11, (('p1',), ()), 3]
>>> ties = net.ties(0)
>>> min([ties[hand] for hand in net.able() if ties[hand] is not None])
3
>>> [len(waiting_net(row, (("p1",), ()), depth).hands()) for depth in [0, 1, 2]]
[2, 5, 8]
>>> waiting_net(row, (("p1",), ()), 4)
raises Near(3)
>>> either = read_library("port p 2\nprocess aid\n begin p1 p2 p2\n refuse p1 if due p2 above 1")
>>> len(waiting_net(either, (("p1", "p2", "p2"), ("p1",)), 4).hands())
124
"""

BOUNDS = r"""
>>> from nearhelp.bounds import acts_within, halving, log_bound, ready_least, round_least, wait_within
>>> from nearhelp.libraries import read_library
>>> either = read_library("port p 2\nprocess aid\n begin p1 p2 p2\n refuse p1 if due p2 above 1")
>>> weights = ([("p1", 1), ("p2", 1)], [("p", 2)])
>>> [ready_least(either, weights, 7), round_least(either, 7), halving(either, weights), log_bound(either, weights, 8)]
[4, 2, 15, 75]
>>> [[acts_within(either, standing) for standing in either.standings()], wait_within(either)]
[[3, 3, None, None], None]
>>> x, y = "process x\n begin p1 q2\n refuse p1 if due q2 above 0", "process y\n begin p2\n begin q1"
>>> order = read_library("port p 2\nport q 2\n" + x + "\n" + y)
>>> [[acts_within(order, standing) for standing in order.standings()], wait_within(order)]
[[2, 2, 3, 2], 6]
>>> halving(either, ([("p1", 1), ("p2", 1)], [("p", 3)]))
raises InvalidWeights(([('p1', 1), ('p2', 1)], [('p', 3)]))
>>> ready_least(either, weights, 0)
raises InvalidCount(0)
>>> lone = read_library("port p 2\nprocess z\n begin p1")
>>> halving(lone, ([("p1", 1), ("p2", 0)], [("p", 1)]))
raises NoNet
>>> wait_within(lone)
raises NoNet
"""

STOPS = r"""
>>> from nearhelp.libraries import Library
>>> from nearhelp.nets import surely
>>> from nearhelp.ports import Ports
>>> from nearhelp.processes import Process
>>> from nearhelp.stops import harm, is_harm, most_held, stop_net, stops_far
>>> ports = Ports([("p", 2)])
>>> x = Process(ports, "x", [], [["p1", "p2", "p2"]], [], [("p1", ("above", ("due", "p2"), 1))])
>>> library = Library(ports, [x])
>>> a, b = (("p1",), ()), (("p1", "p2", "p2"), ("p1",))
>>> weights = ([("p1", 1), ("p2", 1)], [("p", 2)])
>>> is_harm(library, (1, 4, [(a, 2), (b, 1)], [(b, 1)], 4, weights))
True
>>> is_harm(library, (1, 4, [(a, 2), (b, 1)], [(b, 1)], 3, weights))
False
>>> [harm(library)[:2], most_held(library, 2), stops_far(library, weights, 2), stops_far(library, weights, 0)]
[(1, 4), 6, 18, 0]
>>> net, stopped = stop_net(library, b, 1)
>>> [len(net.hands()), net.standing(0) == b, surely(net, stopped)[0], len(stopped) < 5]
[12, True, None, True]
>>> stop_net(library, b, 6)
raises InvalidDepth(6)
>>> y = Process(ports, "y", [], [["p1", "p2", "p2"]], [], [("p1", ("above", ("due", "p2"), 0))])
>>> most_held(Library(ports, [y]), -1)
raises InvalidCount(-1)
>>> most_held(Library(ports, [y]), 1)
raises Still
"""

TYPED = r"""
>>> from nearhelp.libraries import Library
>>> from nearhelp.ports import Ports
>>> from nearhelp.processes import Process
>>> from nearhelp.typed import added, keeps, least_ranks, why_not
>>> ports = Ports([("p", 2), ("q", 2)])
>>> one = Process(ports, "one", [], [["p1", "q1"]], [], [("p1", ("above", ("due", "q1"), 0))])
>>> two = Process(ports, "two", [], [["q1", "p2"]], [], [("q1", ("above", ("due", "p2"), 0))])
>>> three = Process(ports, "three", [], [["p2", "q2"]], [], [("p2", ("above", ("due", "q2"), 0))])
>>> plain = Process(ports, "plain", [], [["p1"], ["q2"]], [], [])
>>> ranks = least_ranks(ports, [one, two])
>>> ranks
[('p1', 1), ('p2', 0), ('q1', 2), ('q2', 0)]
>>> [keeps(one, ranks), keeps(plain, ranks), keeps(three, ranks), why_not(three, ranks)]
[True, True, False, (('p2', 'q2'), ('p2',))]
>>> added(Library(ports, [one, two, plain]), three)
('lifted', 'p2', 0, 3)
>>> four = Process(ports, "four", [], [["q1", "q2", "q2"]], [], [("q1", ("above", ("due", "q2"), 1))])
>>> added(Library(ports, [one, two, plain]), four)
('lifted', 'q1', 2, None)
>>> [least_ranks(ports, [one, two, four]), least_ranks(ports, [one, two, three])]
[None, [('p1', 1), ('p2', 3), ('q1', 2), ('q2', 0)]]
>>> keeps(one, ranks[:3])
raises InvalidRanks([('p1', 1), ('p2', 0), ('q1', 2)])
>>> added(Library(ports, [one]), two)
raises NoNet()
"""


class ExamplesTest(ExamplesCase):
    def test_trees(self):
        self.check(TREES)

    def test_exchanges(self):
        self.check(EXCHANGES)

    def test_bounds(self):
        self.check(BOUNDS)

    def test_stops(self):
        self.check(STOPS)

    def test_typed(self):
        self.check(TYPED)


if __name__ == "__main__":
    unittest.main()
