"""[61], [62] codes and the machine that runs them."""

import random
import unittest

from nearhelp.codes import compiled
from nearhelp.errors import InvalidSide, InvalidState
from nearhelp.machine import run_code
from nearhelp.ports import Ports
from nearhelp.processes import Process
from nearhelp.words import is_condition, is_steps
from tests import makers
from tests.helpers import NearCase, any_values, integers_to_bools, parts_to_any, tuples_to_lists
from tests.model import Model
from tests.test_hands import NO_STATES

SMALL = Ports([("p", 2), ("q", 2)])
NUMBERS = [("a", 3), ("b", 2)]
CHANGE = ("add", "a", 1)


def make(steps, numbers=NUMBERS):
    return Process(SMALL, "tea", numbers, [["p1"]], [("p1", steps)], [])


def full(word):
    """A condition four deep with eight parts."""
    parts = [("is", "a", "b"), ("above", ("due", "p1"), "a"), ("is", ("due", "q1"), 0), ("above", "b", 1)] * 2
    while len(parts) > 1:
        parts = [(word, first, second) for first, second in zip(parts[::2], parts[1::2])]
    return parts[0]


def mixed():
    first, second = ("both", ("is", "a", 1), ("above", "b", 0)), ("either", ("is", "a", 0), ("is", "b", 2))
    return ("either", ("both", first, second), ("both", second, first))


HEAVY = [
    [("if", full(word), [("if", full(other), [], [])] * 3, [])] * 6
    for word, other in [("both", "either"), ("either", "both"), ("either", "either"), ("both", "both")]
] + [
    [("repeat", 9, [("repeat", 9, [CHANGE] * 6)] * 2 + [("repeat", 9, [CHANGE] * 5)] + [CHANGE] * 3)],
    [("repeat", 9, [("repeat", 9, [CHANGE])] * 3 + [CHANGE])] * 3,
    [("repeat", 9, [("repeat", 9, [])] * 6)] * 3,
    [("repeat", 9, [("if", full("either"), [CHANGE], [])] * 6)] + [("repeat", 9, [("if", mixed(), [], [CHANGE])] * 4)],
    [("repeat", 9, [("if", full("both"), [CHANGE], [CHANGE])] * 3), ("repeat", 9, [("repeat", 9, [CHANGE] * 6)])],
    [("if", ("not", ("not", ("not", ("is", "a", 0)))), [("repeat", 9, [CHANGE] * 6)] * 3, [CHANGE])],
]


class Machine:
    """The machine of [61], told a second time, with a count of the rows that it does."""

    def __init__(self, process, state):
        self.values = dict(zip([name for name, _ in process.numbers], state[0]))
        self.tops = dict(process.numbers)
        self.lot = state[1]
        self.slots = [0, 0, 0]
        self.done = 0

    def amount(self, amount):
        if isinstance(amount, tuple):
            return self.lot.count(amount[1])
        return self.values.get(amount, amount)

    def run(self, code):
        at = 0
        while at != len(code):
            self.done += 1
            at = self.row(code[at], at)
        return (tuple(self.values.values()), self.lot)

    def row(self, row, at):
        word = row[0]
        if word == "jump":
            return row[1]
        if word == "unless":
            first, second = self.amount(row[2]), self.amount(row[3])
            return at + 1 if (first == second if row[1] == "is" else first > second) else row[4]
        if word == "load":
            self.slots[row[1]] = row[2]
        elif word == "loop":
            self.slots[row[1]] -= 1
            return row[2] if self.slots[row[1]] > 0 else at + 1
        else:
            value = {"set": 0, "add": self.values[row[1]], "take": self.values[row[1]]}[word]
            value = value - self.amount(row[2]) if word == "take" else value + self.amount(row[2])
            self.values[row[1]] = max(0, min(self.tops[row[1]], value))
        return at + 1


class CodeCase(NearCase):
    def check_rows(self, process, code):
        """Each row is one of those that [61] tells."""
        names = [name for name, _ in process.numbers]
        self.assertIs(type(code), list)
        self.assertLessEqual(len(code), 500)
        for at, row in enumerate(code):
            self.assertIs(type(row), tuple)
            word, parts = row[0], row[1:]
            if word in ("set", "add", "take"):
                self.assertTrue(is_steps(process.ports, names, [row]))
            elif word in ("jump", "unless"):
                self.assertIs(type(row[-1]), int)
                self.assertTrue(at < row[-1] <= len(code))
                if word == "unless":
                    self.assertTrue(is_condition(process.ports, names, row[1:4]) and row[1] in ("is", "above"))
                self.assertEqual(len(parts), 1 if word == "jump" else 4)
            else:
                self.assertIn(word, ["load", "loop"])
                self.assertEqual([len(parts), type(parts[0]), type(parts[1])], [2, int, int])
                self.assertIn(parts[0], [0, 1, 2])
                self.assertTrue(1 <= parts[1] <= 9 if word == "load" else 0 <= parts[1] <= at)

    def check_code(self, process, side, lots):
        """The code does what the steps of the side do, for all values with each of these lots."""
        code, model, most = compiled(process, side), Model(process), 0
        self.check_rows(process, code)
        for lot in lots:
            for values in makers.all_values(process.numbers):
                machine, told = Machine(process, (values, lot)), model.done((values, lot), side)
                self.same(machine.run(code), told)
                self.same(run_code(process, code, (values, lot)), told)
                most = max(most, machine.done)
        self.assertLessEqual(most, 20000)
        return code


class CompiledTest(CodeCase):
    def test_no_rows_without_steps(self):
        process = Process(SMALL, "tea", NUMBERS, [["p1"]], [("p2", [CHANGE]), ("q1", [])], [])
        for side in ["p1", "q1", "q2"]:
            self.same(compiled(process, side), [])
        self.assertNotEqual(compiled(process=process, side="p2"), [])

    def test_a_side_of_its_own(self):
        process = Process(SMALL, "tea", NUMBERS, [["p1"]], [("p2", [CHANGE]), ("q1", [("set", "b", 2)])], [])
        for side, values in [("p2", (1, 0)), ("q1", (0, 2)), ("p1", (0, 0))]:
            state = run_code(process, compiled(process, side), ((0, 0), ("q2",)))
            self.same(state, (values, ("q2",)))

    def test_no_sides(self):
        process = make([CHANGE])
        for side in any_values() + ["p3", "r1", "P1", ("p1",), ["p1"]]:
            if side != "p1":
                self.refuses(InvalidSide, side, compiled, process, side)
                self.refuses(InvalidSide, side, compiled, process=process, side=side)

    def test_new_on_each_call_and_the_same(self):
        process = make([CHANGE, ("repeat", 3, [CHANGE]), ("if", full("both"), [CHANGE], [CHANGE])])
        self.new_lists(lambda: compiled(process, "p1"))
        self.same(compiled(make(list(process.does[0][1])), "p1"), compiled(process, "p1"))

    def test_single_steps(self):
        lots = [(), ("p1",), ("p1", "p1", "q2")]
        for word in ["set", "add", "take"]:
            for amount in list(range(10)) + ["a", "b", ("due", "p1"), ("due", "q2")]:
                self.check_code(make([(word, "a", amount)]), "p1", lots)

    def test_conditions(self):
        leaves = [("is", "a", 1), ("above", "a", 1), ("is", ("due", "p1"), "b"), ("above", "b", ("due", "p1"))]
        found = list(leaves)
        for first in leaves:
            found.append(("not", first))
            for second in leaves:
                for word in ["both", "either"]:
                    pair = (word, first, ("not", second))
                    found += [pair, ("not", pair), ("not", ("not", (word, second, first))), (word, ("not", (word, second, first)), first)]
                    found += [("both", pair, second), ("either", second, pair), ("either", ("not", second), pair)]
        found += [full("both"), full("either"), mixed()]
        for condition in found:
            for first in [[], [("set", "b", 1)]]:
                for second in [[], [("set", "b", 2)]]:
                    process = make([("if", condition, first, second), ("add", "a", 1)])
                    self.check_code(process, "p1", [(), ("p1",), ("p1", "p1")])

    def test_repeats(self):
        turn = ("if", ("is", "a", 3), [("set", "a", 0)], [("add", "a", 1)])
        for times in range(10):
            self.check_code(make([("repeat", times, [turn]), ("add", "b", 1)]), "p1", [()])
            for other in [0, 1, 2, 9]:
                inner = [("repeat", other, [("add", "a", 1)]), ("take", "a", 2), ("add", "b", "a")]
                self.check_code(make([("repeat", times, inner), ("repeat", other, inner)]), "p1", [()])
                deep = [("if", ("is", "a", 0), [("add", "a", times)], []), ("repeat", other, [("take", "a", 1)])]
                self.check_code(make([("repeat", times, deep)]), "p1", [()])

    def test_the_heaviest_steps(self):
        most = 0
        for steps in HEAVY:
            process = make(steps)
            code = self.check_code(process, "p1", [(), ("p1", "p1", "q1")])
            most = max(most, len(code))
        self.assertGreater(most, 0)

    def test_random_ones(self):
        rng = random.Random(62)
        for _ in range(120):
            process = makers.make_process(rng, makers.make_ports(rng, 3))
            lots = [makers.make_state(rng, process)[1] for _ in range(3)]
            for side, _ in process.does[:3]:
                self.check_code(process, side, lots)


class MachineTest(CodeCase):
    def test_no_states(self):
        process = make([CHANGE])
        code = compiled(process, "p1")
        right = ((3, 0), ("p1", "q2"))
        for value in NO_STATES + any_values() + tuples_to_lists(right) + integers_to_bools(right) + parts_to_any(right):
            self.refuses(InvalidState, value, run_code, process, code, value)
            self.refuses(InvalidState, value, run_code, process=process, code=[], state=value)

    def test_rows_one_by_one(self):
        process, state = make([]), ((1, 2), ("p1", "q2"))
        for code, values in [
            ([], (1, 2)), ([("set", "a", "b")], (2, 2)), ([("add", "a", 9)], (3, 2)), ([("take", "b", ("due", "p1"))], (1, 1)),
            ([("jump", 1), CHANGE], (2, 2)), ([("jump", 2), CHANGE], (1, 2)),
            ([("unless", "is", "a", 1, 2), CHANGE], (2, 2)), ([("unless", "is", "a", 2, 2), CHANGE], (1, 2)),
            ([("unless", "above", "b", "a", 2), CHANGE], (2, 2)), ([("unless", "above", "a", 1, 2), CHANGE], (1, 2)),
            ([("load", 2, 2), ("take", "b", 1), ("loop", 2, 1)], (1, 0)), ([("loop", 1, 0)], (1, 2)),
            ([("load", 0, 9), ("loop", 0, 1), CHANGE], (2, 2)),
        ]:
            self.same(run_code(process, code, state), (values, ("p1", "q2")))
            self.same(run_code(process, tuple(code), state), (values, ("p1", "q2")))

    def test_the_code_is_not_changed(self):
        process = make([("repeat", 3, [CHANGE])])
        code = compiled(process, "p1")
        told = repr(code)
        self.same(run_code(process=process, code=code, state=((0, 0), ())), ((3, 0), ()))
        self.same(run_code(process, code, ((0, 0), ())), ((3, 0), ()))
        self.assertEqual(repr(code), told)


if __name__ == "__main__":
    unittest.main()
