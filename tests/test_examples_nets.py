"""The examples of the interface of the stages 8 to 11."""

import unittest

from tests.examples import ExamplesCase

NETS = r"""
>>> from nearhelp.libraries import Library
>>> from nearhelp.nets import Net, surely
>>> from nearhelp.ports import Ports
>>> from nearhelp.processes import Process
>>> ports = Ports([("p", 2)])
>>> x = Process(ports, "x", [], [["p1", "p2"]], [], [("p1", ("above", ("due", "p2"), 0))])
>>> y = Process(ports, "y", [], [["p1"], ["p2"]], [], [])
>>> library = Library(ports, [x, y])
>>> [library.book("x").states(), library.book("y").states()]
[[((), ('p1',)), ((), ('p1', 'p2'))], [((), ('p1',)), ((), ('p2',))]]
>>> hands = [("y", 0), ("x", 1), ("x", 1), ("y", 1)]
>>> net = Net(library, hands, [("p", (0, 1)), ("p", (1, 2)), ("p", (2, 3))])
>>> [net.standing(1), net.due(1), net.ready(), net.able()]
[(('p1', 'p2'), ('p1',)), [0, 1], [0], [0, 1]]
>>> [net.ties(0), net.ties(2), surely(net, []), surely(net, [3]), surely(net, [1])]
[[0, 1, 2, 3], [2, 1, 0, 1], [0, 0, 1, 2], [0, 0, 1, None], [None, None, None, None]]
>>> net == Net(library, hands, [("p", (1, 2)), ("p", (0, 1)), ("p", (2, 3))])
False
>>> Net(library, [("y", 0), ("y", 1)], [("p", (1, 0))])
raises InvalidMeetings([('p', (1, 0))])
>>> Net(library, [("y", 2)], [])
raises InvalidHands([('y', 2)])
>>> net.due(4)
raises InvalidHand(4)
>>> surely(net, [1, 1])
raises InvalidStopped([1, 1])
"""

RUNS = r"""
>>> from nearhelp.libraries import Library
>>> from nearhelp.nets import Net
>>> from nearhelp.ports import Ports
>>> from nearhelp.processes import Process
>>> from nearhelp.runs import Run
>>> ports = Ports([("p", 2)])
>>> x = Process(ports, "x", [], [["p1", "p2"]], [], [("p1", ("above", ("due", "p2"), 0))])
>>> y = Process(ports, "y", [], [["p1"], ["p2"]], [], [])
>>> library = Library(ports, [x, y])
>>> net = Net(library, [("y", 0), ("x", 1), ("x", 1), ("y", 1)], [("p", (0, 1)), ("p", (1, 2)), ("p", (2, 3))])
>>> run = Run(net)
>>> [run.ready(), run.able(), run.greedy([2, 1, 0]), run.hold([0]), run.rounds, run.held()]
[[0], [0, 1], [0], None, 1, [1, None, None]]
>>> [run.state(0), run.standing(0), run.state(1), run.standing(1), run.unheld(), run.ready(), run.able()]
[((), ()), None, ((), ('p1',)), (('p1',), ()), [1, 2], [1], [1, 2]]
>>> [run.stop(3), run.standing(3), run.stopped(), run.waiting(), run.hold([1])]
[None, (('p2',), ('p2',)), [3], [1, 2], None]
>>> [run.ready(), run.held(), run.waiting(), run.greedy((0, 1, 2))]
[[], [1, 2, None], [2], []]
>>> run.hold([2])
raises InvalidRound([2])
>>> run.stop(0)
raises Gone(0)
>>> run.stop(3)
raises Stopped(3)
>>> run.greedy([0, 1])
raises InvalidOrder([0, 1])
"""

ROUNDS = r"""
>>> from nearhelp.libraries import Library
>>> from nearhelp.nets import Net
>>> from nearhelp.ports import Ports
>>> from nearhelp.processes import Process
>>> from nearhelp.rounds import all_rounds, order_by, play
>>> from nearhelp.runs import Run
>>> ports = Ports([("p", 2)])
>>> y = Process(ports, "y", [], [["p1", "p1"], ["p2", "p2"]], [], [])
>>> library = Library(ports, [y])
>>> library.book("y").states()
[((), ('p1',)), ((), ('p1', 'p1')), ((), ('p2',)), ((), ('p2', 'p2'))]
>>> net = Net(library, [("y", 1), ("y", 3), ("y", 2), ("y", 0)], [("p", (0, 1)), ("p", (0, 2)), ("p", (3, 1))])
>>> run = Run(net)
>>> [all_rounds(run), order_by(run, "last"), order_by(run, "turned"), order_by(run, "few")]
[[[0], [1, 2]], [2, 1, 0], [0, 1, 2], [1, 2, 0]]
>>> [run.hold([0]), order_by(run, "turned"), order_by(run, "few"), all_rounds(run)]
[None, [1, 2, 0], [0, 1, 2], [[1, 2]]]
>>> [play(run, "first"), run.rounds, all_rounds(run)]
[[1, 2, 2], 2, []]
>>> [play(Run(net), policy) for policy in ["first", "last", "turned", "few"]]
[[1, 2, 2], [2, 1, 1], [1, 2, 2], [2, 1, 1]]
>>> play(run, "slow")
raises InvalidPolicy('slow')
"""

TASKS = r"""
>>> from nearhelp.tasks import denial, is_denial, is_least, is_solution, is_strict, least, solution, strict
>>> rows, sums = [[1, 2], [1, -1]], [5, -1]
>>> [is_solution(rows, sums, ([1, 2], 1)), is_solution(rows, sums, ((2, 4), 2)), is_solution(rows, sums, [[1, 2], 1])]
[True, True, False]
>>> [is_solution(rows, sums, solution(rows, sums)), denial(rows, sums), is_denial(rows, sums, [0, 0])]
[True, None, False]
>>> [is_solution([[2, 3]], [1], ([1, 0], 2)), is_solution([[2, 3]], [1], ([0, 1], 2)), solution([[2, 3]], [-1])]
[True, False, None]
>>> rows, sums = [[1, 1], [1, 0]], [1, 2]
>>> [solution(rows, sums), is_denial(rows, sums, denial(rows, sums))]
[None, True]
>>> [is_denial(rows, sums, [1, -1]), is_denial(rows, sums, (2, -2)), is_denial(rows, sums, [0, -1])]
[True, True, False]
>>> rows = [[1, -1, 0], [0, 1, 1]]
>>> [is_strict(rows, strict(rows)), strict(rows)[0], is_strict(rows, ([0, 0, 0], [1, 2])), is_strict(rows, ([0, 0, 0], [1, 1]))]
[True, [0, 0, 0], True, False]
>>> [is_strict([[1, -1, 1]], ([1, 2, 1], [0])), is_strict([[1, -1, 1]], ([1, 1, 0], [0]))]
[True, False]
>>> rows, sums, costs = [[1, 1]], [3], [2, 1]
>>> [is_least(rows, sums, costs, least(rows, sums, costs)), is_least(rows, sums, costs, ([0, 6], 2, [5], 5))]
[True, True]
>>> [is_least(rows, sums, costs, ([3, 0], 1, [2], 1)), is_least(rows, sums, costs, ([3, 0], 1, [1], 1))]
[False, False]
>>> solution([], [])
raises InvalidRows([])
>>> denial([[1, 2], [3]], [1])
raises InvalidRows([[1, 2], [3]])
>>> is_solution([[1, 2]], [1, 2], None)
raises InvalidSums([1, 2])
>>> least([[1, 2]], [3], [0, -1])
raises InvalidCosts([0, -1])
>>> least([[1, 2]], [-3], [0, 1])
raises NoSolution
"""

COUNTS = r"""
>>> from nearhelp.counts import is_counts, laid
>>> from nearhelp.libraries import read_library
>>> x, y = "process x\n begin p1 q2\n refuse p1 if due q2 above 0", "process y\n begin p2\n begin q1"
>>> library = read_library("port p 2\nport q 2\n" + x + "\n" + y)
>>> a, b, c = (("p1", "q2"), ("p1",)), (("p2",), ()), (("q1",), ())
>>> [is_counts(library, [(a, 1), (b, 1), (c, 1)]), is_counts(library, [(a, 1), (b, 2), (c, 1)]), is_counts(library, [])]
[True, False, True]
>>> [is_counts(library, [(b, 1), (a, 1), (c, 1)]), is_counts(library, [[a, 1], [b, 1], [c, 1]])]
[False, False]
>>> net = laid(library, [(a, 1), (b, 1), (c, 1)])
>>> [net.standing(hand) for hand in range(6)] == [a, a, b, b, c, c]
True
>>> [len(net.hands()), len(net.meetings())]
[6, 4]
>>> laid(library, [(a, 40), (b, 40), (c, 40)])
raises TooMany(240)
>>> laid(library, [])
raises InvalidCounts([])
"""


class ExamplesTest(ExamplesCase):
    def test_nets(self):
        self.check(NETS)

    def test_runs(self):
        self.check(RUNS)

    def test_rounds(self):
        self.check(ROUNDS)

    def test_tasks(self):
        self.check(TASKS)

    def test_counts(self):
        self.check(COUNTS)


if __name__ == "__main__":
    unittest.main()
