"""The examples of the interface of the stages 18 to 22."""

import unittest

from tests.examples import ExamplesCase

STANDINS = r"""
>>> from nearhelp.ports import Ports
>>> from nearhelp.processes import Process
>>> from nearhelp.standins import is_tower, kept_up, may_stand, rule_ranks, rules_of, tower
>>> ports = Ports([("p", 2), ("q", 2), ("r", 2)])
>>> refuses = [("p1", ("above", ("due", "q1"), 0)), ("p1", ("above", ("due", "r1"), 1))]
>>> rules_of(Process(ports, "x", [], [["r1", "p1", "r1", "q1"]], [], refuses))
[('p1', ('q1',)), ('p1', ('q1', 'r1')), ('p1', ('r1',))]
>>> [kept_up(ports, [("p1", ("q1",)), ("r2", ("p2", "q1"))], []), kept_up(ports, [("p1", ("q1",)), ("r2", ("p2", "q1"))], ["q2"])]
[(), ('p1', 'q2', 'r2')]
>>> rule_ranks(ports, [("p1", ("q1",)), ("q2", ("r1",)), ("r2", ())])
[('p1', None), ('p2', 0), ('q1', 0), ('q2', None), ('r1', 0), ('r2', None)]
>>> rule_ranks(ports, [("p1", ("q1",)), ("q2", ("r1",))])
[('p1', 2), ('p2', 0), ('q1', 0), ('q2', 1), ('r1', 0), ('r2', 0)]
>>> soon, late = [("p1", ("q1", "r1"))], [("p1", ("q1",))]
>>> [may_stand(ports, soon, late), may_stand(ports, late, soon), may_stand(ports, [], late)]
[True, False, True]
>>> is_tower(ports, late, soon, tower(ports, late, soon))
True
>>> wide = Ports([("p", 2), ("q", 2), ("r", 2), ("s", 2)])
>>> [is_tower(ports, late, soon, (wide, [("q2", ("s1",))], "p1")), is_tower(ports, late, soon, (wide, [("q2", ("s1",))], "q2"))]
[True, False]
>>> [is_tower(ports, late, soon, (wide, [("q2", ())], "p1")), is_tower(ports, soon, late, (wide, [("q2", ("s1",))], "p1"))]
[False, False]
>>> tower(ports, soon, late)
raises MayStand()
>>> may_stand(ports, soon, [("p1", ("q1",)), ("q2", ("p2",))])
raises KeptUp(('p1', 'q2'))
"""

PORTWAITS = r"""
>>> from nearhelp.libraries import Library
>>> from nearhelp.ports import Ports
>>> from nearhelp.portwaits import wait_bound, waits
>>> from nearhelp.processes import Process
>>> ports = Ports([("p", 2), ("q", 2), ("r", 2)])
>>> x = Process(ports, "x", [], [["p1", "q2"]], [], [("p1", ("above", ("due", "q2"), 0))])
>>> y = Process(ports, "y", [], [["q1"], ["p2"]], [], [])
>>> z = Process(ports, "z", [], [["r1"]], [], [])
>>> library = Library(ports, [x, y, z])
>>> waits(library)
[('x', 'p1', 'number'), ('x', 'q2', 'number'), ('y', 'p2', 'number'), ('y', 'q1', 'number'), ('z', 'r1', 'none')]
>>> [wait_bound(library, "x", "p1"), wait_bound(library, "y", "p2")]
[4, 6]
>>> wait_bound(library, "z", "r1")
raises NotNumber('none')
>>> wait_bound(library, "z", "p1")
raises NotDue('p1')
>>> small = Ports([("p", 2)])
>>> u = Process(small, "u", [], [["p1", "p2"]], [], [("p1", ("above", ("due", "p2"), 0))])
>>> v = Process(small, "v", [], [["p2"]], [], [])
>>> waits(Library(small, [u, v]))
[('u', 'p1', 'ever'), ('u', 'p2', 'ever'), ('v', 'p2', 'endless')]
"""

CURES = r"""
>>> from nearhelp.cures import cures, without
>>> from nearhelp.libraries import Library
>>> from nearhelp.ports import Ports
>>> from nearhelp.processes import Process
>>> ports = Ports([("p", 2)])
>>> aid = Process(ports, "aid", [], [["p1", "p2"]], [], [("p1", ("above", ("due", "p2"), 0))])
>>> calm = Process(ports, "calm", [], [["p1"]], [], [])
>>> [cures(Library(ports, [calm, aid])), cures(Library(ports, [calm]))]
[[('aid', 'p1')], []]
>>> [without(aid, "p1").refuses, without(aid, "p2") == aid]
[(), True]
>>> without(aid, "q1")
raises InvalidSide('q1')
"""

FILES = r"""
>>> from nearhelp.files import file_text, read_file
>>> from nearhelp.libraries import Library
>>> from nearhelp.ports import Ports
>>> from nearhelp.processes import Process
>>> ports = Ports([("p", 2)])
>>> aid = Process(ports, "aid", [], [["p1", "p2"]], [], [("p1", ("above", ("due", "p2"), 0))])
>>> library = Library(ports, [aid])
>>> text = file_text(library, ("ever", [((("p1", "p2"), ("p1",)), 1)]))
>>> text
'port p 2\nprocess aid\n begin p1 p2\n refuse p1 if due p2 above 0\never\ncount 1 !p1 p2'
>>> [read_file(text)[0] == library, read_file(text)[1]]
[True, ('ever', [((('p1', 'p2'), ('p1',)), 1)])]
>>> calm = Library(ports, [Process(ports, "calm", [], [["p1"], ["p2"]], [], [])])
>>> zeros = [("p1", 0), ("p2", 0)]
>>> file_text(calm, ("number", zeros, zeros))
'port p 2\nprocess calm\n begin p1\n begin p2\nnumber\nrank p1 0\nrank p2 0\nsign p1 0\nsign p2 0'
>>> file_text(library, ("number", zeros, zeros))
raises InvalidVerdict(('number', [('p1', 0), ('p2', 0)], [('p1', 0), ('p2', 0)]))
>>> read_file("port p 2\nprocess calm\n begin p1\n begin p2\nnumber")
raises InvalidText('port p 2\nprocess calm\n begin p1\n begin p2\nnumber')
"""

BENCH = r"""
>>> from nearhelp.bench import Bench
>>> from nearhelp.ports import Ports
>>> from nearhelp.processes import Process
>>> ports = Ports([("p", 2)])
>>> aid = Process(ports, "aid", [], [["p1", "p2"]], [], [("p1", ("above", ("due", "p2"), 0))])
>>> calm = Process(ports, "aid", [], [["p1", "p2"]], [], [])
>>> bench = Bench(ports)
>>> [bench.answer(), bench.put(aid), bench.answer(), bench.put(calm), bench.answer(), len(bench), bench.names()]
[None, None, 'ever', None, 'number', 2, ['aid']]
>>> [bench.undo(), bench.answer(), len(bench), bench.redo(), bench.ranks()]
[None, 'ever', 1, None, [('p1', 0), ('p2', 0)]]
>>> [bench.tried(lambda desk: [desk.drop("aid"), desk.names(), len(desk)]), bench.names(), len(bench)]
[[None, [], 3], ['aid'], 2]
>>> bench.text()
'put\n process aid\n  begin p1 p2\n  refuse p1 if due p2 above 0\nput\n process aid\n  begin p1 p2'
>>> [len(Bench.read(ports, bench.text())), Bench.read(ports, "").text()]
[2, '']
>>> Bench.read(ports, "put\n process aid\n  begin p1 p2\ndrop bo")
raises InvalidLine(4)
>>> bench.redo()
raises NothingToRedo
>>> Bench(ports).library()
raises Empty
"""


class ExamplesTest(ExamplesCase):
    def test_standins(self):
        self.check(STANDINS)

    def test_portwaits(self):
        self.check(PORTWAITS)

    def test_cures(self):
        self.check(CURES)

    def test_files(self):
        self.check(FILES)

    def test_bench(self):
        self.check(BENCH)


if __name__ == "__main__":
    unittest.main()
