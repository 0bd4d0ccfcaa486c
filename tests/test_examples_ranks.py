"""The examples of the interface of the stages 11 to 13."""

import unittest

from tests.examples import ExamplesCase

JOINS = r"""
>>> from nearhelp.joins import is_joined, joined, left, own_net, struck
>>> from nearhelp.libraries import read_library
>>> x = "process x\n begin p1 q1\n refuse p1 if due q1 above 0"
>>> library = read_library("port p 2\nport q 2\n" + x + "\nprocess y\n begin p2")
>>> [left(library), struck(library)]
[[(('p1',), ()), (('p2',), ())], [(('p1', 'q1'), ('p1',))]]
>>> a, b, c = library.standings()
>>> signs = [("p1", 0), ("p2", 0), ("q1", 3), ("q2", -3)]
>>> [is_joined(library, joined(library)), is_joined(library, ([(a, 2), (c, 2)], signs)), is_joined(library, ([], signs))]
[True, True, False]
>>> own_net(library, c).standing(0)
(('p2',), ())
>>> own_net(library, b)
raises NotLeft((('p1', 'q1'), ('p1',)))
>>> plain = "\nprocess y\n begin p1\n begin p2\nprocess z\n begin q1\n begin q2"
>>> stars = read_library("port p 2\nport q 2\n" + x + plain)
>>> net = own_net(stars, b)
>>> [net.standing(0) == b, len(net.hands()), len(net.meetings()), len(net.ready())]
[True, 3, 2, 1]
"""

STILLS = r"""
>>> from nearhelp.libraries import read_library
>>> from nearhelp.stills import ever, is_ever, is_still, is_weights, still, still_net, value_of, weights
>>> both = read_library("port p 2\nprocess aid\n begin p1 p2 p2\n refuse p1 if due p2 above 0")
>>> either = read_library("port p 2\nprocess aid\n begin p1 p2 p2\n refuse p1 if due p2 above 1")
>>> [weights(both), still(either), is_still(both, still(both)), is_weights(either, weights(either))]
[None, None, True, True]
>>> ring = (("p1", "p2"), ("p1",))
>>> [is_still(both, [(ring, 3)]), is_still(both, []), is_still(either, [(ring, 3)])]
[True, False, False]
>>> net = still_net(both, [(ring, 3)])
>>> [len(net.hands()), net.ready(), net.able()]
[6, [], []]
>>> told = ([("p1", 1), ("p2", 1)], [("p", 2)])
>>> [value_of(either, told, standing) for standing in either.standings()]
[1, 2, 1, 1]
>>> [is_weights(either, told), is_weights(either, ([("p1", 1), ("p2", 1)], [("p", 3)])), is_weights(both, told)]
[True, False, False]
>>> [is_ever(both, ([(ring, 1)], told)), is_ever(both, ([], told)), is_ever(either, ([], told))]
[True, False, True]
>>> [is_ever(both, ever(both)), ever(either)[0]]
[True, []]
>>> still_net(both, [((("p1",), ()), 1)])
raises InvalidCounts([((('p1',), ()), 1)])
>>> value_of(either, ([("p1", 1), ("p2", 1)], [("p", 1)]), ring)
raises InvalidWeights(([('p1', 1), ('p2', 1)], [('p', 1)]))
>>> value_of(either, told, ring)
raises InvalidStanding((('p1', 'p2'), ('p1',)))
"""

RANKS = r"""
>>> from nearhelp.libraries import read_library
>>> from nearhelp.ranks import falls, far, farthest, ranks
>>> x, y = "process x\n begin p1 q2\n refuse p1 if due q2 above 0", "process y\n begin p2\n begin q1"
>>> order = read_library("port p 2\nport q 2\n" + x + "\n" + y)
>>> [falls(order), ranks(order)]
[[('p1',), ()], [('p1', 1), ('p2', 0), ('q1', 0), ('q2', 0)]]
>>> order.standings()
[(('p1',), ()), (('p1', 'q2'), ('p1',)), (('p2',), ()), (('q1',), ())]
>>> [[far(order, standing) for standing in order.standings()], farthest(order)]
[[0, 0, 1, 0], 1]
>>> either = read_library("port p 2\nprocess aid\n begin p1 p2 p2\n refuse p1 if due p2 above 1")
>>> [falls(either), ranks(either), farthest(either)]
[[('p1',)], [('p1', None), ('p2', 0)], None]
>>> [far(either, standing) for standing in either.standings()]
[0, 0, None, None]
>>> lone = read_library("port p 2\nprocess z\n begin p1")
>>> [falls(lone), ranks(lone)]
[[()], [('p1', 0), ('p2', 0)]]
>>> far(lone, (("p1",), ()))
raises NotLeft((('p1',), ()))
>>> far(either, (("p1",), ("p1",)))
raises InvalidStanding((('p1',), ('p1',)))
>>> farthest(lone)
raises NoNet
"""

VERDICTS = r"""
>>> from nearhelp.libraries import read_library
>>> from nearhelp.verdicts import is_verdict, verdict
>>> both = read_library("port p 2\nprocess aid\n begin p1 p2 p2\n refuse p1 if due p2 above 0")
>>> either = read_library("port p 2\nprocess aid\n begin p1 p2 p2\n refuse p1 if due p2 above 1")
>>> x, y = "process x\n begin p1 q2\n refuse p1 if due q2 above 0", "process y\n begin p2\n begin q1"
>>> order = read_library("port p 2\nport q 2\n" + x + "\n" + y)
>>> [verdict(library)[0] for library in [both, either, order]]
['ever', 'logarithm', 'number']
>>> ring = (("p1", "p2"), ("p1",))
>>> [is_verdict(both, ("ever", [(ring, 1)])), is_verdict(either, ("ever", [(ring, 1)]))]
[True, False]
>>> weights = ([("p1", 1), ("p2", 1)], [("p", 2)])
>>> call, aid = (("p1",), ()), (("p1", "p2", "p2"), ("p1",))
>>> counts = [(call, 1), (aid, 1)]
>>> [is_verdict(either, ("logarithm", weights, (counts, [("p1", aid)], last))) for last in [aid, call]]
[True, False]
>>> is_verdict(either, ("logarithm", weights, ([(aid, 1)], [("p1", aid)], aid)))
False
>>> signs = [("p1", 0), ("p2", 0), ("q1", 0), ("q2", 0)]
>>> [is_verdict(order, ("number", [("p1", p1), ("p2", 2), ("q1", 2), ("q2", 0)], signs)) for p1 in [3, 2, 4]]
[True, False, False]
>>> lone = read_library("port p 2\nprocess z\n begin p1")
>>> is_verdict(lone, ("number", [("p1", 0), ("p2", 0)], [("p1", 1), ("p2", -1)]))
False
>>> verdict(lone)
raises NoNet
"""


class ExamplesTest(ExamplesCase):
    def test_joins(self):
        self.check(JOINS)

    def test_stills(self):
        self.check(STILLS)

    def test_ranks(self):
        self.check(RANKS)

    def test_verdicts(self):
        self.check(VERDICTS)


if __name__ == "__main__":
    unittest.main()
