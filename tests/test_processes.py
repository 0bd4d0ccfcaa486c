"""[9], [41] processes."""

import random
import unittest

from nearhelp.errors import InvalidBegins, InvalidDoes, InvalidName, InvalidNumbers, InvalidRefuses
from nearhelp.ports import Ports
from nearhelp.processes import Process
from tests import makers
from tests.helpers import (
    NearCase, any_values, integers_to_bools, lists_to_tuples, parts_to_any, tuples_to_lists,
)

SMALL = Ports([("p", 2), ("q", 3)])
IS = ("is", "cup", 1)
STEPS = [("set", "cup", 1), ("if", IS, [("repeat", 2, [("add", "cup", 1)])], [("take", "cup", 1)])]
RIGHT = {
    "name": "tea",
    "numbers": [("cup", 3), ("pot", 1)],
    "begins": [["q1", "p2", "p2"], ["p1"], ["p1"]],
    "does": [("p2", STEPS), ("p1", []), ("q3", [("set", "pot", "cup")])],
    "refuses": [("q1", IS), ("p1", ("not", IS)), ("q1", ("above", ("due", "p2"), 0))],
}
WORDS = "port process number begin at refuse if else repeat times set to add take by is above both either not due"
ERRORS = {
    "name": InvalidName, "numbers": InvalidNumbers, "begins": InvalidBegins, "does": InvalidDoes,
    "refuses": InvalidRefuses,
}


def make(**parts):
    return Process(SMALL, **{**RIGHT, **parts})


class ProcessCase(NearCase):
    def wrong(self, part, value):
        self.refuses(ERRORS[part], value, make, **{part: value})

    def right(self, part, value):
        """The value is kept, with tuples in the place of lists."""
        self.same(getattr(make(**{part: value}), part), frozen(value))


def frozen(value):
    if isinstance(value, (list, tuple)):
        return tuple([frozen(item) for item in value])
    return value


class NameTest(ProcessCase):
    def test_one_to_eight_letters(self):
        for name in ["a", "z", "tea", "abcdefgh", "process", "port", "due", "cup"]:
            self.right("name", name)
        for name in ["", "abcdefghi", "Tea", "tea1", "te a", "tea ", "tea\n", "te-a", "a" * 20000]:
            self.wrong("name", name)

    def test_any_value(self):
        for value in any_values():
            if value not in ("p", "cup", "first"):
                self.wrong("name", value)


class NumbersTest(ProcessCase):
    def right_numbers(self, numbers):
        process = Process(SMALL, "tea", numbers, [["p1"]], [], [])
        self.same(process.numbers, frozen(numbers))

    def test_at_most_two(self):
        self.right_numbers([])
        self.right_numbers(())
        self.right_numbers([("a", 1)])
        self.right_numbers((("abcdefgh", 3), ("a", 2)))
        self.wrong("numbers", [("cup", 3), ("pot", 1), ("a", 1)])
        self.wrong("numbers", [("cup", 3)] * 2000)

    def test_names(self):
        self.wrong("numbers", [("cup", 3), ("cup", 3)])
        self.wrong("numbers", [("cup", 3), ("cup", 1)])
        for name in ["tea", "p", "x", "iff", "nota", "sets"]:
            self.right_numbers([(name, 2)])
        for name in WORDS.split() + ["", "abcdefghi", "Cup", "cup1", "p1", "c p", None, 1, True, ("cup",), ["cup"]]:
            self.wrong("numbers", [(name, 2)])
            self.wrong("numbers", [("pot", 1), (name, 2)])

    def test_tops_from_one_to_three(self):
        for top in [1, 2, 3]:
            self.right_numbers([("cup", top)])
        for top in [0, 4, -1, 10 ** 399, True, False, None, "1", (1,), [1]]:
            self.wrong("numbers", [("cup", top)])

    def test_any_value(self):
        for value in any_values():
            if value not in ([], ()):
                self.wrong("numbers", value)
            self.wrong("numbers", [value])
        for value in parts_to_any(RIGHT["numbers"]) + integers_to_bools(RIGHT["numbers"]):
            self.wrong("numbers", value)
        for item in [["cup", 1], ("cup",), ("cup", 1, 1), (1, "cup")]:
            self.wrong("numbers", [item])


class BeginsTest(ProcessCase):
    def test_one_to_three(self):
        for many in [1, 2, 3]:
            self.right("begins", [["p2", "p1"]] * many)
            self.right("begins", (("p2", "p1"),) * many)
        for many in [0, 4, 2000]:
            self.wrong("begins", [["p1"]] * many)
        self.wrong("begins", ())

    def test_one_to_four_sides(self):
        for many in [1, 2, 3, 4]:
            self.right("begins", [["q3"] * many, ["p1"]])
        for many in [0, 5, 2000]:
            self.wrong("begins", [["p1"], ["q3"] * many])
            self.wrong("begins", [("q3",) * many])

    def test_sides_in_any_order_with_repeats(self):
        self.right("begins", [["q3", "p1", "q1", "p1"], ["p1", "p1", "q1", "q3"], ["q3", "p1", "q1", "p1"]])
        for side in ["p3", "q0", "q4", "p", "", "r1", "P1", None, 1, True, ("p1",), ["p1"], {}, SMALL]:
            self.wrong("begins", [["p1"], ["p1", side]])

    def test_any_value(self):
        for value in any_values():
            self.wrong("begins", value)
            if value not in (("p1",), ["p1"], ("p1", "p1")):
                self.wrong("begins", [value])
        for value in parts_to_any(RIGHT["begins"]):
            self.wrong("begins", value)


class DoesTest(ProcessCase):
    def test_different_sides(self):
        self.right("does", [])
        self.right("does", ())
        self.right("does", [(side, []) for side in ["q3", "p1", "q1", "p2", "q2"]])
        self.right("does", [("q3", STEPS), ("p1", STEPS)])
        self.wrong("does", [("q3", STEPS), ("p1", []), ("q3", [])])
        self.wrong("does", [("q3", [])] * 2)
        self.wrong("does", [("p1", STEPS)] * 2000)

    def test_sides_of_the_ports(self):
        for side in ["p3", "q0", "p", "", "r1", None, 1, True, ("p1",), ["p1"], {}, SMALL]:
            self.wrong("does", [(side, [])])
            self.wrong("does", [("p1", []), (side, [])])

    def test_steps(self):
        for steps in [None, {}, "", 0, ("set", "cup", 1), [["set", "cup", 1]], [("set", "a", 1)], [()], STEPS * 4]:
            self.wrong("does", [("p1", steps)])
            self.wrong("does", [("p2", []), ("p1", steps)])
        self.right("does", [("p1", STEPS * 3)])

    def test_names_are_those_of_the_numbers(self):
        for numbers in [[], [("pot", 2)]]:
            does = [("p1", [("set", "cup", 1)])]
            self.refuses(InvalidDoes, does, make, numbers=numbers, does=does)

    def test_any_value(self):
        for value in any_values():
            if value not in ([], ()):
                self.wrong("does", value)
            self.wrong("does", [value])
        for value in parts_to_any(RIGHT["does"]) + tuples_to_lists(RIGHT["does"]) + integers_to_bools(RIGHT["does"]):
            self.wrong("does", value)
        for item in [("p1",), ("p1", [], []), ([], "p1")]:
            self.wrong("does", [item])


class RefusesTest(ProcessCase):
    def test_at_most_six(self):
        for many in [0, 1, 6]:
            self.right("refuses", [("p1", IS)] * many)
        for many in [7, 2000]:
            self.wrong("refuses", [("p1", IS)] * many)

    def test_sides_and_conditions(self):
        for side in ["p3", "q0", "p", "", "r1", None, 1, True, ("p1",), ["p1"], {}, SMALL]:
            self.wrong("refuses", [("p1", IS), (side, IS)])
        for condition in [None, (), [], "cup is 1", list(IS), ("is", "a", 1), ("is", 10, 1), ("not",) + IS]:
            self.wrong("refuses", [("p1", IS), ("p1", condition)])
        deep = ("not", ("not", ("not", IS)))
        self.right("refuses", [("p1", deep)])
        self.wrong("refuses", [("p1", ("not", deep))])
        for numbers in [[], [("pot", 2)]]:
            refuses = [("p1", IS)]
            self.refuses(InvalidRefuses, refuses, make, numbers=numbers, does=[], refuses=refuses)

    def test_any_value(self):
        for value in any_values():
            if value not in ([], ()):
                self.wrong("refuses", value)
            self.wrong("refuses", [value])
        right = RIGHT["refuses"]
        for value in parts_to_any(right) + tuples_to_lists(right) + integers_to_bools(right):
            self.wrong("refuses", value)
        for item in [("p1",), ("p1", IS, IS), (IS, "p1")]:
            self.wrong("refuses", [item])


class WholeTest(ProcessCase):
    def test_errors_in_their_order(self):
        wrong = {name: [[]] for name in ERRORS}
        for name, error in ERRORS.items():
            self.refuses(error, wrong[name], make, **wrong)
            del wrong[name]
        make(**wrong)

    def test_attributes(self):
        process = Process(SMALL, *RIGHT.values())
        self.assertTrue(process.ports == SMALL)
        self.same([process.name, process.numbers, process.begins], ["tea", frozen(RIGHT["numbers"]), frozen(RIGHT["begins"])])
        self.same([process.does, process.refuses], [frozen(RIGHT["does"]), frozen(RIGHT["refuses"])])
        self.assertTrue(process == make())

    def test_tuples_for_lists(self):
        for part, value in RIGHT.items():
            for other in lists_to_tuples(value):
                self.assertTrue(make(**{part: other}) == make())

    def test_arguments_are_neither_changed_nor_kept(self):
        steps = [("repeat", 2, [("set", "cup", 1)])]
        parts = [[("cup", 1)], [["p1"], ["p2"]], [("p1", steps)], [("p1", IS)]]
        told = repr(parts)
        process = Process(SMALL, "tea", *parts)
        self.assertEqual(repr(parts), told)
        text = process.text()
        steps[0][2].append(("set", "cup", 0))
        steps.append(("set", "cup", 0))
        parts[1][0].append("p2")
        for part in parts:
            part.append(None)
        self.assertEqual(process.text(), text)

    def test_equal_if_all_is_equal(self):
        others = [
            make(name="coffee"), make(numbers=[("pot", 1), ("cup", 3)]), make(numbers=[("cup", 3), ("pot", 2)]),
            make(begins=[["p1"]]), make(begins=[["p2", "p2", "q1"], ["p1"], ["p1"]]), make(does=[]),
            make(does=list(reversed(RIGHT["does"]))), make(refuses=[]), make(refuses=RIGHT["refuses"][::-1]),
            Process(Ports([("q", 3), ("p", 2)]), **RIGHT),
        ]
        for at, process in enumerate([make()] + others):
            for place, other in enumerate([make()] + others):
                self.assertIs(process == other, at == place)
                self.assertIs(process != other, at != place)
        for value in any_values() + ["tea"]:
            self.assertFalse(make() == value)
            self.assertFalse(value == make())

    def test_random_ones(self):
        rng = random.Random(41)
        for _ in range(100):
            ports = makers.make_ports(rng)
            parts = makers.make_parts(rng, ports)
            process = Process(ports, *parts)
            names = ["name", "numbers", "begins", "does", "refuses"]
            self.same([getattr(process, name) for name in names], [frozen(part) for part in parts])


if __name__ == "__main__":
    unittest.main()
