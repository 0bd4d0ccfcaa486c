"""What several tests use: any values [10], values with one place changed, and a check of errors."""

import unittest

from nearhelp.books import Book
from nearhelp.errors import InvalidSide, NearError, NoNet
from nearhelp.libraries import Library
from nearhelp.ports import Ports
from nearhelp.processes import Process


class NearCase(unittest.TestCase):
    def refuses(self, error, value, call, *args, **named):
        """The call raises just this error, whose only attribute is this very object."""
        with self.assertRaises(NearError) as caught:
            call(*args, **named)
        self.assertIs(type(caught.exception), error)
        kept = list(vars(caught.exception).values())
        self.assertEqual(len(kept), 1)
        self.assertIs(kept[0], value)

    def counts(self, count, call, *args):
        """The call raises TooMany with this count."""
        with self.assertRaises(NearError) as caught:
            call(*args)
        self.assertEqual([type(caught.exception).__name__, caught.exception.count], ["TooMany", count])
        self.assertIs(type(caught.exception.count), int)

    def same(self, got, wanted):
        """Both are equal, with the same kinds of values throughout."""
        self.assertEqual(repr(got), repr(wanted))

    def new_lists(self, give):
        """What is given is a list each time, and a change of one changes no other one."""
        first = give()
        self.assertIs(type(first), list)
        wanted = repr(first)
        first.append("more")
        first[0] = "other"
        self.assertEqual(repr(give()), wanted)


PORTS = Ports([("p", 2), ("q", 3)])
PROCESS = Process(PORTS, "tea", [("cup", 2)], [["p1", "q2"]], [], [("p1", ("is", "cup", 0))])


def deep(inner, wrap, depth=11):
    """A value with so many wraps around an inner one."""
    for _ in range(depth):
        inner = wrap(inner)
    return inner


def any_values():
    """Values of all kinds that callers may pass as any value, none of them equal to two others."""
    values = [None, True, False, 0, 1, -1, 2, 10, 10 ** 399, -(10 ** 399)]
    values += ["", " ", "\n", "p", "p1", "p4", "P1", "cup", "first", "a" * 20000, "9" * 20000, "not " * 5000]
    values += [[], (), {}, [[]], ((),), [()], ([],), ((), ()), ([], []), {"p1": 1}, ("p1",), ["p1"], ("p1", "p1")]
    values += [(None, None), (True, False), ((0,), ("p1",)), [(0,), ("p1",)], [0] * 2000, ("p1",) * 2000]
    values += [deep([], lambda x: [x]), deep((), lambda x: (x,)), deep({}, lambda x: {"a": x})]
    values += [deep("p1", lambda x: (x, [x], {"p1": x}), 8), deep(1, lambda x: ("not", x), 12)]
    values += [PORTS, PROCESS, Book(PROCESS), Library(PORTS, [PROCESS]), NoNet(), InvalidSide("p1")]
    return values


def one_changed(value, change):
    """All copies of a value with one place changed, in which `change` gives other values for one that stands there."""
    out = list(change(value))
    if isinstance(value, (list, tuple)):
        for at, item in enumerate(value):
            for other in one_changed(item, change):
                out.append(type(value)(list(value[:at]) + [other] + list(value[at + 1:])))
    return out


def tuples_to_lists(value):
    return one_changed(value, lambda item: [list(item)] if isinstance(item, tuple) else [])


def lists_to_tuples(value):
    return one_changed(value, lambda item: [tuple(item)] if isinstance(item, list) else [])


def integers_to_bools(value):
    return one_changed(value, lambda item: [True, False] if type(item) is int else [])


def parts_to_any(value):
    """All copies of a value with one place changed to a value that can stand in no ports, states or processes."""
    others = [None, {}, PORTS, "", -1, "A"]
    return one_changed(value, lambda item: others)
