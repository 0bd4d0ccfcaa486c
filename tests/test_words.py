"""[31] conditions and [32] steps."""

import random
import unittest

from nearhelp.ports import Ports
from nearhelp.words import is_condition, is_steps
from tests import makers
from tests.helpers import (
    NearCase, any_values, integers_to_bools, lists_to_tuples, parts_to_any, tuples_to_lists,
)

SMALL = Ports([("p", 2), ("due", 3)])
NAMES = ["a", "cup"]
IS = ("is", "a", 1)


def nested(condition, depth):
    """A condition with so many "not" around another one."""
    for _ in range(depth):
        condition = ("not", condition)
    return condition


def whole(depth):
    """A condition so deep with as many parts as it can have."""
    return IS if depth == 1 else ("both", whole(depth - 1), whole(depth - 1))


class JudgeCase(NearCase):
    def right(self, value):
        for names in (NAMES, tuple(NAMES)):
            self.assertIs(self.judge(SMALL, names, value), True, value)

    def wrong(self, value):
        self.assertIs(self.judge(SMALL, NAMES, value), False, value)


class ConditionTest(JudgeCase):
    def judge(self, ports, numbers, value):
        return is_condition(ports, numbers, value)

    def test_amounts(self):
        for amount in [0, 1, 9, "a", "cup", ("due", "p1"), ("due", "due3")]:
            for word in ["is", "above"]:
                self.right((word, amount, 2))
                self.right((word, 2, amount))
        wrong = [10, -1, 10 ** 399, True, False, None, "", "b", "p1", "due", "A", "a ", ("due", "p3"), ("due", "a")]
        wrong += [("due",), ("due", "p1", "p2"), ["due", "p1"], ("p1", "due"), ("is", "p1"), (), [], {}, ("due", 1)]
        wrong += [("due", ["p1"]), ("due", ("p1",)), "due p1", ("due p1",), SMALL, [1], (1,)]
        for amount in wrong:
            for word in ["is", "above"]:
                self.wrong((word, amount, 2))
                self.wrong((word, 2, amount))

    def test_no_names_and_other_names(self):
        self.assertIs(is_condition(SMALL, [], ("is", "a", 1)), False)
        self.assertIs(is_condition(SMALL, [], ("is", 0, 1)), True)
        self.assertIs(is_condition(SMALL, ["a"], ("is", "cup", 1)), False)
        self.assertIs(is_condition(ports=SMALL, numbers=["cup"], value=("is", "cup", 1)), True)

    def test_joined_conditions(self):
        for word in ["both", "either"]:
            self.right((word, IS, ("above", 0, 1)))
            self.wrong((word, IS))
            self.wrong((word, IS, IS, IS))
            self.wrong((word, [IS, IS]))
            self.wrong((word, IS, ("is", 1)))
            self.wrong((word, ("is", 1), IS))
            self.wrong((word, 1, 2))
        self.right(("not", IS))
        self.wrong(("not", IS, IS))
        self.wrong(("not",))
        self.wrong(("not", "a"))

    def test_words(self):
        for word in ["below", "and", "", "Is", "is ", "due", "if", None, 1, True, ("is",), ["is"], {}, SMALL]:
            self.wrong((word, 1, 2))
            self.wrong((word, IS, IS))
            self.wrong((word, IS))
        for value in [(), ("is",), ("is", 1), ("is", 1, 2, 3), ("above", 1), ("is", IS, IS)]:
            self.wrong(value)

    def test_at_most_four_deep(self):
        self.right(nested(IS, 3))
        self.wrong(nested(IS, 4))
        self.right(whole(4))
        self.wrong(whole(5))
        for word in ["both", "either"]:
            self.right((word, IS, nested(IS, 2)))
            self.right((word, nested(IS, 2), IS))
            self.wrong((word, IS, nested(IS, 3)))
            self.wrong((word, nested(IS, 3), IS))
        self.wrong(nested(IS, 11))
        self.wrong(whole(11))

    def test_any_value(self):
        for value in any_values():
            self.wrong(value)
            self.wrong(("not", value))
            self.wrong(("both", IS, value))
        # Of any values, just these are amounts.
        amounts = [0, 1, 2]
        for value in any_values():
            told = type(value) is int and value in amounts
            self.assertIs(is_condition(SMALL, NAMES, ("is", value, value)), told or value == "cup")

    def test_random_ones(self):
        rng = random.Random(31)
        for _ in range(150):
            ports = makers.make_ports(rng, 3)
            value = makers.make_condition(rng, ports, NAMES)
            self.assertIs(is_condition(ports, NAMES, value), True)
            for other in tuples_to_lists(value) + integers_to_bools(value) + parts_to_any(value):
                self.assertIs(is_condition(ports, NAMES, other), False)


class StepsTest(JudgeCase):
    def judge(self, ports, numbers, value):
        return is_steps(ports, numbers, value)

    def test_changes(self):
        for word in ["set", "add", "take"]:
            for amount in [0, 9, "a", "cup", ("due", "p2")]:
                self.right([(word, "cup", amount)])
            for amount in [10, -1, True, None, "b", ("due", "p3"), ["due", "p1"], IS]:
                self.wrong([(word, "cup", amount)])
            for name in ["b", "", "p1", None, 1, True, ("cup",), ["cup"], ("due", "p1"), SMALL]:
                self.wrong([(word, name, 1)])
            self.wrong([(word, "a")])
            self.wrong([(word, "a", 1, 1)])
            self.wrong([[word, "a", 1]])
            self.assertIs(is_steps(SMALL, [], [(word, "a", 1)]), False)
            self.assertIs(is_steps(ports=SMALL, numbers=("a",), value=[(word, "a", 1)]), True)

    def test_if(self):
        for inner in [[], (), [("set", "a", 1)], (("set", "a", 1),)]:
            self.right([("if", IS, inner, [])])
            self.right((("if", nested(IS, 3), [], inner),))
        self.wrong([("if", IS, [])])
        self.wrong([("if", IS, [], [], [])])
        self.wrong([("if", nested(IS, 4), [], [])])
        for inner in [None, {}, "", 0, ("set", "a", 1), [["set", "a", 1]], [("set", "b", 1)]]:
            self.wrong([("if", IS, inner, [])])
            self.wrong([("if", IS, [], inner)])
        for condition in [None, [], (), "a is 1", list(IS), True]:
            self.wrong([("if", condition, [], [])])

    def test_repeat(self):
        for times in [0, 1, 9]:
            self.right([("repeat", times, [("add", "a", 1)])])
            self.right([("repeat", times, [])])
        for times in [10, -1, True, False, None, "a", "1", ("due", "p1"), 10 ** 399]:
            self.wrong([("repeat", times, [])])
        self.wrong([("repeat", 1)])
        self.wrong([("repeat", 1, [], [])])
        self.wrong([("repeat", 1, ("set", "a", 1))])
        self.wrong([("repeat", 1, None)])
        self.wrong([["repeat", 1, []]])

    def test_words(self):
        for word in ["", "put", "Set", "is", "else", None, 1, (), [], ("set",), SMALL]:
            for parts in [("a", 1), (1, []), (IS, [], [])]:
                self.wrong([(word,) + parts])
        for item in [(), ("set",), ("if",), ("repeat",), "set", None, IS, 1, []]:
            self.wrong([item])

    def test_at_most_six_items_in_a_list(self):
        self.right([("set", "a", 1)] * 6)
        self.wrong([("set", "a", 1)] * 7)
        self.wrong([("set", "a", 1)] * 2000)
        for wrap in [lambda x: ("repeat", 2, x), lambda x: ("if", IS, x, []), lambda x: ("if", IS, [], x)]:
            self.right([wrap([("set", "a", 1)] * 6)])
            self.wrong([wrap([("set", "a", 1)] * 7)])

    def test_at_most_three_deep(self):
        for wrap in [lambda x: ("repeat", 2, x), lambda x: ("if", IS, x, []), lambda x: ("if", IS, [], x)]:
            for inner in [[], [("set", "a", 1)]]:
                self.right([wrap([wrap(inner)])])
                self.wrong([wrap([wrap([wrap(inner)])])])
                self.right([("set", "a", 1), ("repeat", 1, [wrap(inner)])])
                self.wrong([("set", "a", 1), ("repeat", 1, [wrap([("if", IS, inner, [])])])])

    def test_at_most_24_items_in_all(self):
        six = [("set", "a", 1)] * 6
        self.right([("repeat", 9, six), ("if", IS, six, six[:4]), six[0], six[0], six[0], ("repeat", 0, six[:2])])
        self.wrong([("repeat", 9, six), ("if", IS, six, six[:4]), six[0], six[0], six[0], ("repeat", 0, six[:3])])
        self.right([("repeat", 0, [("if", IS, six, six), ("repeat", 1, six)]), six[0], six[0], six[0]])
        self.wrong([("repeat", 0, [("if", IS, six, six), ("repeat", 1, six)]), six[0], six[0], six[0], six[0]])
        self.right([("if", IS, [("if", IS, [], [])] * 3, [])] * 6)
        self.wrong([("if", IS, [("if", IS, [], [])] * 3, [])] * 5 + [("if", IS, [("if", IS, [], [])] * 4, [])])
        full = [("if", IS, [("if", IS, six, six)] * 6, [("if", IS, six, six)] * 6)] * 6
        self.wrong(full)

    def test_any_value(self):
        for value in any_values():
            told = value in ([], ()) and isinstance(value, (list, tuple))
            self.assertIs(is_steps(SMALL, NAMES, value), told)
            self.wrong([value])
            self.assertIs(is_steps(SMALL, NAMES, [("repeat", 1, value)]), told)
            self.assertIs(is_steps(SMALL, NAMES, [("if", IS, value, value)]), told)

    def test_random_ones(self):
        rng = random.Random(32)
        for _ in range(150):
            ports = makers.make_ports(rng, 3)
            value = makers.make_steps(rng, ports, NAMES)
            self.assertIs(is_steps(ports, NAMES, value), True)
            for other in lists_to_tuples(value):
                self.assertIs(is_steps(ports, NAMES, other), True)
            if value:
                wrong = integers_to_bools(value) + parts_to_any(value) + tuples_to_lists(value)
                for other in wrong:
                    self.assertIs(is_steps(ports, NAMES, other), False)


if __name__ == "__main__":
    unittest.main()
