"""The examples of the interface of the stages 1 to 7."""

import unittest

from tests.examples import ExamplesCase

PORTS = r"""
>>> from nearhelp.ports import Ports, read_ports
>>> ports = Ports([("q", 3), ("p", 2)])
>>> [ports.kinds, ports.sides()]
[(('q', 3), ('p', 2)), ['p1', 'p2', 'q1', 'q2', 'q3']]
>>> [ports.kind("q2"), ports.others("q2"), ports.others("p1")]
['q', ('q1', 'q3'), ('p2',)]
>>> [ports.text(), read_ports("port q 3\nport p 2") == ports, Ports([("p", 2), ("q", 3)]) == ports]
['port q 3\nport p 2', True, False]
>>> Ports([("ab", 2), ("a", 2)]).sides()
['a1', 'a2', 'ab1', 'ab2']
>>> ports.others("q4")
raises InvalidSide('q4')
>>> Ports([("p", 2), ("p", 3)])
raises InvalidPorts([('p', 2), ('p', 3)])
>>> read_ports("port p 2\n")
raises InvalidText('port p 2\n')
"""

WORDS = r"""
>>> from nearhelp.ports import Ports
>>> from nearhelp.words import condition_text, is_condition, is_steps, read_condition
>>> ports = Ports([("p", 2)])
>>> [is_condition(ports, ["a"], ("is", "a", 9)), is_condition(ports, ["a"], ("above", ("due", "p1"), 0))]
[True, True]
>>> [is_condition(ports, ["a"], ("is", "b", 1)), is_condition(ports, ["a"], ("is", 0, 10)), is_condition(ports, [], ["is", 0, 1])]
[False, False, False]
>>> deep = ("not", ("not", ("not", ("is", 1, 2))))
>>> [is_condition(ports, [], deep), is_condition(ports, [], ("not", deep))]
[True, False]
>>> is_steps(ports, ["a"], [("set", "a", 0), ("if", ("is", "a", 1), [], [("add", "a", ("due", "p2"))])])
True
>>> [is_steps(ports, ["a"], []), is_steps(ports, ["a"], ("set", "a", 0)), is_steps(ports, [], [("repeat", 10, [])])]
[True, False, False]
>>> condition = read_condition(ports, ["a"], "both due p1 above 0 not a is 2")
>>> condition
('both', ('above', ('due', 'p1'), 0), ('not', ('is', 'a', 2)))
>>> condition_text(condition)
'both due p1 above 0 not a is 2'
>>> read_condition(ports, [], "a is 2")
raises InvalidText('a is 2')
"""

PROCESSES = r"""
>>> from nearhelp.ports import Ports
>>> from nearhelp.processes import Process, read_process
>>> ports = Ports([("p", 2)])
>>> both = Process(ports, "both", [], [["p1", "p2", "p2"]], [], [("p1", ("above", ("due", "p2"), 0))])
>>> [both.begins, both.refuses]
[(('p1', 'p2', 'p2'),), (('p1', ('above', ('due', 'p2'), 0)),)]
>>> both.text()
'process both\n begin p1 p2 p2\n refuse p1 if due p2 above 0'
>>> [read_process(ports, both.text()) == both, read_process(ports, "process both\n begin p1 p2 p2") == both]
[True, False]
>>> does = [("p2", [("if", ("is", "a", 1), [("repeat", 2, [("add", "a", 1)])], [("set", "a", 1)])])]
>>> turns = Process(ports, "turns", [("a", 3)], [["p2"], ["p2", "p2"]], does, [])
>>> turns.text()
'process turns\n number a 3\n begin p2\n begin p2 p2\n at p2\n  if a is 1\n   repeat 2 times\n    add a by 1\n  else\n   set a to 1'
>>> turns.does
(('p2', (('if', ('is', 'a', 1), (('repeat', 2, (('add', 'a', 1),)),), (('set', 'a', 1),)),)),)
>>> Process(ports, "Both", [], [[]], [], [])
raises InvalidName('Both')
>>> Process(ports, "none", [], [[]], [], [])
raises InvalidBegins([[]])
>>> read_process(ports, "process both\n begin p1 p2 p2\n refuse p1 if due p2 above 0\n")
raises InvalidText('process both\n begin p1 p2 p2\n refuse p1 if due p2 above 0\n')
"""

HANDS = r"""
>>> from nearhelp.hands import begin_state, refused, standing, step
>>> from nearhelp.ports import Ports
>>> from nearhelp.processes import Process
>>> ports = Ports([("p", 2), ("q", 2)])
>>> does = [("p2", [("add", "cup", 1), ("if", ("is", ("due", "p2"), 0), [("take", "cup", 2)], [])])]
>>> process = Process(ports, "tea", [("cup", 2)], [["q1", "p2", "p2"]], does, [("q1", ("is", "cup", 0))])
>>> state = begin_state(process, 0)
>>> [state, refused(process, state), standing(process, state)]
[((0,), ('p2', 'p2', 'q1')), ('q1',), (('p2', 'p2', 'q1'), ('q1',))]
>>> after = step(process, state, "p2")
>>> [after, standing(process, after), step(process, after, "p2"), step(process, after, "q1")]
[((1,), ('p2', 'q1')), (('p2', 'q1'), ()), ((0,), ('q1',)), ((1,), ('p2',))]
>>> [step(process, ((2,), ("q1",)), "q1"), refused(process, ((0,), ())), refused(process, ((0,), ("p1", "p2")))]
[((2,), ()), (), ()]
>>> step(process, state, "q1")
raises Refused('q1')
>>> step(process, state, "p1")
raises NotDue('p1')
>>> refused(process, ((3,), ("q1",)))
raises InvalidState(((3,), ('q1',)))
>>> standing(process, ((0,), ()))
raises InvalidState(((0,), ()))
>>> begin_state(process, 1)
raises InvalidIndex(1)
"""

CODES = r"""
>>> from nearhelp.codes import compiled
>>> from nearhelp.ports import Ports
>>> from nearhelp.processes import Process
>>> does = [("p1", [("set", "cup", 1)]), ("q1", [])]
>>> process = Process(Ports([("p", 2), ("q", 2)]), "tea", [("cup", 3)], [["p1", "q2"]], does, [])
>>> [compiled(process, "p2"), compiled(process, "q1")]
[[], []]
>>> compiled(process, "p3")
raises InvalidSide('p3')
"""

MACHINE = r"""
>>> from nearhelp.codes import compiled
>>> from nearhelp.machine import run_code
>>> from nearhelp.ports import Ports
>>> from nearhelp.processes import Process
>>> ports = Ports([("p", 2)])
>>> fill = ("repeat", 3, [("add", "cup", ("due", "p2"))])
>>> spill = ("if", ("either", ("above", "cup", 2), ("is", "cup", "pot")), [("take", "cup", 2)], [("set", "pot", "cup")])
>>> process = Process(ports, "tea", [("cup", 3), ("pot", 1)], [["p1", "p2"]], [("p1", [fill, spill])], [])
>>> code = compiled(process, "p1")
>>> [run_code(process, code, ((0, 0), ("p2",))), run_code(process, code, ((0, 0), ()))]
[((1, 0), ('p2',)), ((0, 0), ())]
>>> [run_code(process, code, ((2, 0), ("p1",))), run_code(process, [], ((3, 1), ()))]
[((2, 1), ('p1',)), ((3, 1), ())]
>>> run_code(process, code, ((4, 0), ("p2",)))
raises InvalidState(((4, 0), ('p2',)))
"""

BOOKS = r"""
>>> from nearhelp.books import Book
>>> from nearhelp.ports import Ports
>>> from nearhelp.processes import Process
>>> ports = Ports([("p", 2), ("q", 2)])
>>> does = [("p2", [("set", "cup", 1)])]
>>> process = Process(ports, "tea", [("cup", 1)], [["q1", "p2"]], does, [("q1", ("is", "cup", 0))])
>>> book = Book(process)
>>> [book.states(), book.standings()]
[[((0,), ('p2', 'q1')), ((1,), ('q1',))], [(('p2', 'q1'), ('q1',)), (('q1',), ())]]
>>> [book.place(((1,), ("q1",))), book.standing(0), book.after(0, "p2"), book.after(1, "q1")]
[1, (('p2', 'q1'), ('q1',)), 1, None]
>>> [book.way(0), book.way(1), book.process == process]
[(0, ()), (0, ('p2',)), True]
>>> book.after(0, "q1")
raises Refused('q1')
>>> book.after(1, "p2")
raises NotDue('p2')
>>> book.place(((0,), ("q1",)))
raises InvalidState(((0,), ('q1',)))
>>> book.standing(2)
raises InvalidIndex(2)
"""

LIBRARIES = r"""
>>> from nearhelp.libraries import Library, read_library
>>> from nearhelp.ports import Ports
>>> from nearhelp.processes import Process
>>> ports = Ports([("p", 2)])
>>> aid = Process(ports, "aid", [], [["p1", "p2", "p2"]], [], [("p1", ("above", ("due", "p2"), 1))])
>>> plain = Process(ports, "plain", [], [["p1"]], [], [])
>>> library = Library(ports, [plain, aid])
>>> [library.names(), library.most, len(library.book("aid").states())]
[['plain', 'aid'], 3, 4]
>>> library.standings()
[(('p1',), ()), (('p1', 'p2'), ()), (('p1', 'p2', 'p2'), ('p1',)), (('p2',), ())]
>>> [library.holders((("p1",), ())), library.holders((("p1", "p2", "p2"), ("p1",)))]
[[('plain', 0), ('aid', 0)], [('aid', 2)]]
>>> library.text()
'port p 2\nprocess plain\n begin p1\nprocess aid\n begin p1 p2 p2\n refuse p1 if due p2 above 1'
>>> [read_library(library.text()) == library, library == Library(ports, [aid, plain])]
[True, False]
>>> library.book("tea")
raises InvalidName('tea')
>>> library.holders((("p2", "p2"), ()))
raises InvalidStanding((('p2', 'p2'), ()))
>>> read_library("port p 2")
raises InvalidText('port p 2')
>>> Library(ports, [aid, aid])
raises InvalidProcesses
"""


class ExamplesTest(ExamplesCase):
    def test_ports(self):
        self.check(PORTS)

    def test_words(self):
        self.check(WORDS)

    def test_processes(self):
        self.check(PROCESSES)

    def test_hands(self):
        self.check(HANDS)

    def test_codes(self):
        self.check(CODES)

    def test_machine(self):
        self.check(MACHINE)

    def test_books(self):
        self.check(BOOKS)

    def test_libraries(self):
        self.check(LIBRARIES)


if __name__ == "__main__":
    unittest.main()
