"""[10] and "The interface": what must exist, where, under which names, and how it may be called."""

import importlib
import inspect
import unittest

from nearhelp.bench import Bench
from nearhelp.books import Book
from nearhelp.bounds import acts_within, halving, log_bound, ready_least, round_least, wait_within
from nearhelp.codes import compiled
from nearhelp.counts import is_counts, laid
from nearhelp.cures import cures, without
from nearhelp.exchanges import waiting_net
from nearhelp.files import file_text, read_file
from nearhelp.hands import begin_state, refused, standing, step
from nearhelp.joins import is_joined, joined, left, own_net, struck
from nearhelp.libraries import Library, read_library
from nearhelp.machine import run_code
from nearhelp.nets import Net, surely
from nearhelp.ports import Ports, read_ports
from nearhelp.portwaits import wait_bound, waits
from nearhelp.processes import Process, read_process
from nearhelp.ranks import falls, far, farthest, ranks
from nearhelp.rounds import all_rounds, order_by, play
from nearhelp.runs import Run
from nearhelp.standins import is_tower, kept_up, may_stand, rule_ranks, rules_of, tower
from nearhelp.stills import ever, is_ever, is_still, is_weights, still, still_net, value_of, weights
from nearhelp.stops import harm, is_harm, most_held, stop_net, stops_far
from nearhelp.tasks import denial, is_denial, is_least, is_solution, is_strict, least, solution, strict
from nearhelp.trees import is_refusers, refusers
from nearhelp.typed import added, keeps, least_ranks, why_not
from nearhelp.verdicts import is_verdict, verdict
from nearhelp.words import condition_text, is_condition, is_steps, read_condition
from tests.judged import lists_in

FUNCTIONS = {
    "ports": {"read_ports": "text"},
    "words": {
        "is_condition": "ports numbers value", "is_steps": "ports numbers value", "condition_text": "condition",
        "read_condition": "ports numbers text",
    },
    "processes": {"read_process": "ports text"},
    "hands": {
        "begin_state": "process index", "refused": "process state", "standing": "process state",
        "step": "process state side",
    },
    "codes": {"compiled": "process side"},
    "machine": {"run_code": "process code state"},
    "libraries": {"read_library": "text"},
    "nets": {"surely": "net stopped"},
    "rounds": {"order_by": "run policy", "play": "run policy", "all_rounds": "run"},
    "tasks": {
        "solution": "rows sums", "denial": "rows sums", "is_solution": "rows sums value", "is_denial": "rows sums value",
        "strict": "rows", "is_strict": "rows value", "least": "rows sums costs", "is_least": "rows sums costs value",
    },
    "counts": {"is_counts": "library value", "laid": "library counts"},
    "joins": {
        "joined": "library", "is_joined": "library value", "left": "library", "struck": "library",
        "own_net": "library standing",
    },
    "stills": {
        "still": "library", "weights": "library", "is_still": "library value", "is_weights": "library value",
        "value_of": "library weights standing", "still_net": "library counts", "ever": "library",
        "is_ever": "library value",
    },
    "ranks": {"falls": "library", "ranks": "library", "far": "library standing", "farthest": "library"},
    "verdicts": {"verdict": "library", "is_verdict": "library value"},
    "trees": {"refusers": "library standing depth", "is_refusers": "library standing depth value"},
    "exchanges": {"waiting_net": "library standing depth"},
    "bounds": {
        "round_least": "library many", "ready_least": "library weights many", "halving": "library weights",
        "log_bound": "library weights many", "acts_within": "library standing", "wait_within": "library",
    },
    "stops": {
        "harm": "library", "is_harm": "library value", "most_held": "library many",
        "stop_net": "library standing depth", "stops_far": "library weights many",
    },
    "typed": {
        "keeps": "process ranks", "why_not": "process ranks", "least_ranks": "ports processes",
        "added": "library process",
    },
    "standins": {
        "rules_of": "process", "kept_up": "ports rules facts", "rule_ranks": "ports rules",
        "may_stand": "ports rules instead", "tower": "ports rules instead", "is_tower": "ports rules instead value",
    },
    "portwaits": {"waits": "library", "wait_bound": "library name side"},
    "cures": {"without": "process side", "cures": "library"},
    "files": {"file_text": "library verdict", "read_file": "text"},
}
CLASSES = {
    ("ports", "Ports"): {"__init__": "kinds", "sides": "", "kind": "side", "others": "side", "__eq__": "other", "text": ""},
    ("processes", "Process"): {"__init__": "ports name numbers begins does refuses", "__eq__": "other", "text": ""},
    ("books", "Book"): {
        "__init__": "process", "states": "", "place": "state", "standing": "index", "after": "index side",
        "standings": "", "way": "index",
    },
    ("libraries", "Library"): {
        "__init__": "ports processes", "names": "", "book": "name", "standings": "", "holders": "standing",
        "__eq__": "other", "text": "",
    },
    ("nets", "Net"): {
        "__init__": "library hands meetings", "hands": "", "meetings": "", "standing": "hand", "due": "hand", "ready": "",
        "able": "", "__eq__": "other", "ties": "hand",
    },
    ("runs", "Run"): {
        "__init__": "net", "state": "hand", "standing": "hand", "unheld": "", "ready": "", "able": "", "stopped": "",
        "waiting": "", "held": "", "stop": "hand", "hold": "chosen", "greedy": "order",
    },
    ("bench", "Bench"): {
        "__init__": "ports", "put": "process", "drop": "name", "names": "", "library": "", "answer": "", "ranks": "",
        "__len__": "", "undo": "", "redo": "", "tried": "act", "text": "",
    },
}
PORTS = Ports([("q", 2), ("p", 2)])
DOES = [("p1", [("if", ("above", ("due", "p1"), 0), [("repeat", 2, [("add", "a", 1)])], [("set", "a", 0)])])]
TEXT = """port q 2
port p 2
process x
 number a 2
 begin p1 p1 q2
 at p1
  if due p1 above 0
   repeat 2 times
    add a by 1
  else
   set a to 0
 refuse q2 if a is 0"""


def make():
    return Process(PORTS, "x", [("a", 2)], [["p1", "p1", "q2"]], DOES, [("q2", ("is", "a", 0))])


def calls():
    """Calls of everything, as pairs of a function and its named arguments; all of them return what they tell."""
    process, state = make(), ((2,), ("p1", "q2"))
    book, library = Book(process), Library(PORTS, [process])
    shown = lambda found: [found.text(), type(found).__name__]
    return [
        (lambda kinds: shown(Ports(kinds)), {"kinds": [("p", 2)]}),
        (lambda text: shown(read_ports(text)), {"text": "port p 2"}),
        (PORTS.sides, {}), (PORTS.kind, {"side": "p1"}), (PORTS.others, {"side": "p1"}), (PORTS.text, {}),
        (is_condition, {"ports": PORTS, "numbers": ["a"], "value": ("is", "a", 1)}),
        (is_steps, {"ports": PORTS, "numbers": ["a"], "value": DOES[0][1]}),
        (condition_text, {"condition": ("not", ("is", "a", 1))}),
        (read_condition, {"ports": PORTS, "numbers": ["a"], "text": "not a is 1"}),
        (lambda ports, text: shown(read_process(ports, text)), {"ports": PORTS, "text": process.text()}),
        (process.text, {}), (begin_state, {"process": process, "index": 0}),
        (refused, {"process": process, "state": state}), (standing, {"process": process, "state": state}),
        (step, {"process": process, "state": state, "side": "q2"}), (compiled, {"process": process, "side": "p1"}),
        (run_code, {"process": process, "code": compiled(process, "p1"), "state": state}),
        (book.states, {}), (book.place, {"state": state}), (book.standing, {"index": 1}),
        (book.after, {"index": 3, "side": "q2"}), (book.standings, {}), (book.way, {"index": 2}),
        (library.names, {}), (lambda name: library.book(name).states(), {"name": "x"}), (library.standings, {}),
        (library.holders, {"standing": (("p1", "q2"), ())}), (library.text, {}),
        (lambda text: shown(read_library(text)), {"text": TEXT}),
    ]


def make_net():
    """A row of four hands, in which the meetings are held one after the other."""
    ports = Ports([("p", 2)])
    x = Process(ports, "x", [], [["p1", "p2"]], [], [("p1", ("above", ("due", "p2"), 0))])
    library = Library(ports, [x, Process(ports, "y", [], [["p1"], ["p2"]], [], [])])
    meetings = [("p", (0, 1)), ("p", (1, 2)), ("p", (2, 3))]
    return Net(library, [("y", 0), ("x", 1), ("x", 1), ("y", 1)], meetings)


def net_calls():
    """Calls of everything of the stages 8 to 11, likewise."""
    net = make_net()
    library, run = net.library, Run(net)
    shown = lambda found: [found.hands(), found.meetings()]
    counts = [((("p1",), ()), 1), ((("p2",), ()), 1)]
    task, none = {"rows": [[1, 2], [1, -1]], "sums": [5, -1]}, {"rows": [[1], [1]], "sums": [0, 1]}
    costs = {**task, "costs": [1, 1]}
    run.hold([0])
    return [
        (lambda library, hands, meetings: shown(Net(library, hands, meetings)),
         {"library": library, "hands": net.hands(), "meetings": net.meetings()}),
        (net.hands, {}), (net.meetings, {}), (net.standing, {"hand": 1}), (net.due, {"hand": 1}), (net.ready, {}),
        (net.able, {}), (net.ties, {"hand": 2}), (surely, {"net": net, "stopped": [3]}),
        (lambda net: Run(net).held(), {"net": net}), (run.state, {"hand": 1}), (run.standing, {"hand": 1}),
        (run.unheld, {}), (run.ready, {}), (run.able, {}), (run.stopped, {}), (run.waiting, {}), (run.held, {}),
        (lambda hand: Run(net).stop(hand), {"hand": 1}), (lambda chosen: Run(net).hold(chosen), {"chosen": [0]}),
        (run.greedy, {"order": [0, 1, 2]}), (order_by, {"run": run, "policy": "few"}),
        (lambda run, policy: play(Run(run.net), policy), {"run": run, "policy": "turned"}), (all_rounds, {"run": run}),
        (solution, task), (denial, none), (is_solution, {**task, "value": ([1, 2], 1)}),
        (is_denial, {**none, "value": [1, -1]}), (strict, {"rows": [[1, -1]]}),
        (is_strict, {"rows": [[1, -1]], "value": ([1, 1], [0])}), (least, costs),
        (is_least, {**costs, "value": ([1, 2], 1, [2, 1], 3)}), (is_counts, {"library": library, "value": counts}),
        (lambda library, counts: shown(laid(library, counts)), {"library": library, "counts": counts}),
    ]


def answer_calls():
    """Calls of everything of the stages 11 to 13, likewise."""
    either = read_library("port p 2\nprocess aid\n begin p1 p2 p2\n refuse p1 if due p2 above 1")
    both = read_library("port p 2\nprocess aid\n begin p1 p2 p2\n refuse p1 if due p2 above 0")
    order = make_net().library
    told, last = ([("p1", 1), ("p2", 1)], [("p", 2)]), (("p2",), ())
    ring = [((("p1", "p2"), ("p1",)), 3)]
    shown = lambda found: [found.hands(), found.meetings()]
    found = [
        (lambda library, standing: shown(own_net(library, standing)), {"library": either, "standing": last}),
        (is_still, {"library": both, "value": ring}), (is_weights, {"library": either, "value": told}),
        (value_of, {"library": either, "weights": told, "standing": last}),
        (lambda library, counts: shown(still_net(library, counts)), {"library": both, "counts": ring}),
        (is_ever, {"library": either, "value": ([], told)}), (far, {"library": order, "standing": last}),
        (farthest, {"library": order}),
    ]
    for library in [either, both, order]:
        for call in [joined, left, struck, still, weights, ever, falls, ranks, verdict]:
            found.append((call, {"library": library}))
        found.append((is_joined, {"library": library, "value": joined(library)}))
        found.append((is_verdict, {"library": library, "value": verdict(library)}))
    return found


def wait_calls():
    """Calls of everything of the stages 14 to 17, likewise."""
    either = read_library("port p 2\nprocess aid\n begin p1 p2 p2\n refuse p1 if due p2 above 1")
    held = "process x\n begin p1 q2\n refuse p1 if due q2 above 0\nprocess y\n begin p2\n begin q1"
    order = read_library("port p 2\nport q 2\n" + held)
    told, aid = ([("p1", 1), ("p2", 1)], [("p", 2)]), (("p1", "p2", "p2"), ("p1",))
    many, at = {"library": either, "weights": told, "many": 5}, {"library": either, "standing": aid, "depth": 2}
    shown = lambda found: [found.hands(), found.meetings()]
    process, ranks_told = make(), [("p1", 0), ("p2", 0), ("q1", 0), ("q2", 1)]
    plain = Process(order.ports, "plain", [], [["p1"], ["q2"]], [], [])
    found = [
        (refusers, at), (is_refusers, {**at, "value": refusers(**at)}), (is_refusers, {**at, "value": [(aid, None, None, None)]}),
        (lambda library, standing, depth: shown(waiting_net(library, standing, depth)), at),
        (lambda library, standing, depth: [shown(row) if type(row) is Net else row for row in stop_net(library, standing, depth)], at),
        (round_least, {"library": either, "many": 5}), (ready_least, many), (log_bound, many), (stops_far, many),
        (halving, {"library": either, "weights": told}), (acts_within, {"library": order, "standing": (("p1",), ())}),
        (most_held, {"library": either, "many": 5}), (keeps, {"process": process, "ranks": ranks_told}),
        (why_not, {"process": process, "ranks": ranks_told}), (least_ranks, {"ports": PORTS, "processes": [process]}),
        (added, {"library": order, "process": plain}),
    ]
    for library in [either, order]:
        found += [(wait_within, {"library": library}), (harm, {"library": library})]
        found.append((is_harm, {"library": library, "value": harm(library)}))
    return found


def bench_calls():
    """Calls of everything of the stages 18 to 22, likewise."""
    either = read_library("port p 2\nprocess aid\n begin p1 p2 p2\n refuse p1 if due p2 above 1")
    process = either.book("aid").process
    soon, late = [("p1", ("q1", "q2"))], [("p1", ("q1",))]
    both = {"ports": PORTS, "rules": late, "instead": soon}
    shown = lambda found: [row.text() if type(row) is Ports else row for row in found]
    text = file_text(either, verdict(either))
    bench = Bench(either.ports)
    bench.put(process)
    return [
        (rules_of, {"process": process}), (kept_up, {"ports": PORTS, "rules": soon, "facts": ["q2"]}),
        (rule_ranks, {"ports": PORTS, "rules": soon}), (may_stand, both),
        (lambda ports, rules, instead: shown(tower(ports, rules, instead)), both),
        (is_tower, {**both, "value": tower(**both)}), (waits, {"library": either}),
        (wait_bound, {"library": read_library("port p 2\nprocess x\n begin p1\n begin p2"), "name": "x", "side": "p1"}),
        (lambda process, side: without(process, side).text(), {"process": process, "side": "p1"}), (cures, {"library": either}),
        (file_text, {"library": either, "verdict": verdict(either)}),
        (lambda text: [read_file(text)[0].text(), read_file(text)[1]], {"text": text}),
        (bench.names, {}), (lambda: bench.library().text(), {}), (bench.answer, {}), (bench.ranks, {}), (bench.text, {}),
        (lambda act: bench.tried(act), {"act": len}),
        (lambda process: bench.tried(lambda desk: [desk.put(process), desk.drop(name="aid"), desk.names()]), {"process": process}),
        (lambda ports, text: Bench.read(ports, text).text(), {"ports": either.ports, "text": bench.text()}),
    ]


def all_calls():
    return calls() + net_calls() + answer_calls() + wait_calls() + bench_calls()


class InterfaceTest(unittest.TestCase):
    def parameters(self, function):
        found = inspect.signature(function).parameters.values()
        self.assertEqual([row for row in found if row.default is not row.empty or row.kind != row.POSITIONAL_OR_KEYWORD], [])
        return [row.name for row in found]

    def test_functions_are_defined_in_their_files(self):
        for name, functions in FUNCTIONS.items():
            module = importlib.import_module("nearhelp." + name)
            for function, parameters in functions.items():
                found = getattr(module, function)
                self.assertTrue(inspect.isfunction(found))
                self.assertEqual(found.__module__, "nearhelp." + name)
                self.assertEqual(self.parameters(found), parameters.split())

    def test_methods_are_defined_in_their_classes(self):
        for (name, made), methods in CLASSES.items():
            found = getattr(importlib.import_module("nearhelp." + name), made)
            self.assertEqual([found.__module__, found.__bases__], ["nearhelp." + name, (object,)])
            for method, parameters in methods.items():
                self.assertIn(method, vars(found))
                self.assertEqual(self.parameters(vars(found)[method])[1:], parameters.split())

    def test_the_static_method(self):
        self.assertIs(type(vars(Bench)["read"]), staticmethod)
        self.assertEqual(self.parameters(Bench.read), ["ports", "text"])

    def test_attributes_are_set_on_objects(self):
        process = make()
        self.assertEqual([type(value) for value in vars(PORTS).values()][:1], [tuple])
        self.assertIn("kinds", vars(PORTS))
        for name, kind in [("ports", Ports), ("name", str), ("numbers", tuple), ("begins", tuple), ("does", tuple), ("refuses", tuple)]:
            self.assertIs(type(vars(process)[name]), kind)
        self.assertIs(type(vars(Book(process))["process"]), Process)
        library = vars(Library(PORTS, [process]))
        self.assertEqual([type(library["ports"]), type(library["most"])], [Ports, int])
        net = make_net()
        self.assertIs(type(vars(net)["library"]), Library)
        run = vars(Run(net))
        self.assertIs(run["net"], net)
        self.assertIs(type(run["rounds"]), int)


class CallsTest(unittest.TestCase):
    def test_by_position_and_by_name(self):
        for call, named in all_calls():
            self.assertEqual(repr(call(*named.values())), repr(call(**named)))
        self.assertEqual(read_library(TEXT).text(), TEXT)

    def test_arguments_stay_unchanged(self):
        for call, named in all_calls():
            told = {name: repr(value) for name, value in named.items()}
            call(**named)
            self.assertEqual({name: repr(value) for name, value in named.items()}, told)

    def test_equal_answers_of_equal_objects(self):
        for (call, named), (other, same) in zip(all_calls(), all_calls()):
            self.assertEqual(repr(call(**named)), repr(other(**same)))

    def test_lists_are_new_on_each_call_at_any_depth(self):
        for call, named in all_calls():
            first = call(**named)
            wanted = repr(first)
            found = lists_in(first)
            self.assertEqual(len(found), len({id(row) for row in found}))
            for row in found:
                row.clear()
            self.assertEqual(repr(call(**named)), wanted)

    def test_kinds_of_values(self):
        for call, named in calls():
            found = call(**named)
            self.assertIn(type(found), [list, tuple, str, int, bool])
            if type(found) is tuple:
                self.assertEqual(lists_in(found), [])
        for call, named in net_calls():
            self.assertIn(type(call(**named)), [list, tuple, bool, type(None)])
        for call, named in answer_calls() + wait_calls():
            self.assertIn(type(call(**named)), [list, tuple, bool, int, type(None)])
        for call, named in bench_calls():
            self.assertIn(type(call(**named)), [list, tuple, bool, int, str])


if __name__ == "__main__":
    unittest.main()
