"""The answers of [122] to [143] for great libraries, as they were before the simplex method was made quicker."""

import hashlib
import sys
import unittest

from nearhelp.errors import NearError
from nearhelp.joins import joined, left, struck
from nearhelp.libraries import read_library
from nearhelp.ranks import falls, far, farthest, ranks
from nearhelp.simplex import Tableau, solved
from nearhelp.stills import ever, still, weights
from nearhelp.strips import Strips
from nearhelp.tasks import least, strict
from nearhelp.verdicts import verdict
from tests.helpers import NearCase
from tests.test_joins import FULL, HUNDRED, LONE, MORE, NOBODY, THIRTY
from tests.test_ranks import ROW
from tests.test_stills import BOTH, CLOSED, EITHER
from tests.test_verdicts import ORDER, TWO


def plain_text():
    text = "port a 3\nport b 3\nport c 3\nport d 3"
    for name, port in [("x", "a"), ("y", "b"), ("z", "c"), ("w", "d")]:
        text += f"\nprocess {name}" + "".join([f"\n begin {port}{digit}" for digit in "123"])
    return text


U = "\nprocess u\n begin a1 b2 c3 d1\n refuse a1 if due b2 above 0\n refuse c3 if due a1 above 0"
V = "\nprocess v\n begin a2 b1 c1 d2\n refuse b1 if due c1 above 0\n refuse d2 if due a2 above 0\n refuse a2 if due b1 above 0"
TWENTY = read_library(plain_text() + U + V)
NUMBER = read_library(plain_text() + """
process u
 begin b1 b3 d1 a1
 refuse d1 if due b1 above 0
 refuse d1 if due a1 above 0
process v
 begin d1 d1 d2 b2
 begin b2 c2 d3 b2
 refuse d3 if due c2 above 0
 refuse c2 if due b2 above 0""")
STRUCK = read_library("""port d 3
port a 3
port b 3
port zz 3
process x
 begin zz2 a2
process y
 begin d3 d2
 begin b2 zz2
 begin zz3
process z
 begin d1 a3 zz3
 begin zz1 a2 a3 zz3
 refuse zz3 if due a2 above 1
process w
 begin d2 zz1 zz2
 begin zz3
 refuse zz2 if due zz3 above 0""")
FEW = read_library("""port a 3
port b 3
port d 2
process x
 begin b2 d1 a2 d2
process y
 begin a2
 refuse a2 if due a2 above 0
process z
 begin d1 b1 b2 b1
 refuse b2 if due b1 above 1
process w
 begin b3 b3 d1 b3""")
JOINED = [
    ((("a1",), ()), 3), ((("a1", "b2", "c3"), ("a1", "c3")), 1), ((("a1", "b2", "c3", "d1"), ("a1", "c3")), 2),
    ((("a1", "c3"), ("c3",)), 1), ((("a1", "c3", "d1"), ("c3",)), 3), ((("a2",), ()), 4),
    ((("a2", "b1", "c1", "d2"), ("a2", "b1", "d2")), 3), ((("a2", "b1", "d2"), ("a2", "d2")), 1),
    ((("a2", "d2"), ("d2",)), 2), ((("a3",), ()), 10), ((("b1",), ()), 1), ((("b2",), ()), 2), ((("b3",), ()), 5),
    ((("c1",), ()), 6), ((("c2",), ()), 9), ((("c3",), ()), 1), ((("c3", "d1"), ()), 1), ((("d1",), ()), 1),
    ((("d2",), ()), 1), ((("d3",), ()), 7),
]
EVER = [
    ((("a1",), ()), 2), ((("a1", "b2", "c3"), ("a1", "c3")), 2), ((("a1", "b2", "c3", "d1"), ("a1", "c3")), 4),
    ((("a1", "c3"), ("c3",)), 1), ((("a1", "c3", "d1"), ("c3",)), 3), ((("a2",), ()), 3),
    ((("a2", "b1", "c1", "d2"), ("a2", "b1", "d2")), 7), ((("a2", "d2"), ("d2",)), 2), ((("a3",), ()), 12),
    ((("b2",), ()), 1), ((("b3",), ()), 7), ((("c1",), ()), 3), ((("c2",), ()), 10), ((("d1",), ()), 2), ((("d3",), ()), 9),
]
ONES = ["b1", "c3", "d2"]
VERDICT = [
    ((("a1", "b2", "c3"), ("a1", "c3")), 1), ((("a1", "c3"), ("c3",)), 1), ((("a2",), ()), 1),
    ((("a2", "b1", "c1", "d2"), ("a2", "b1", "d2")), 1), ((("a3",), ()), 2), ((("b3",), ()), 1), ((("c1",), ()), 1),
    ((("c2",), ()), 2), ((("d1",), ()), 1), ((("d3",), ()), 1),
]
NEAR = [7, 10, 15, 16, 18]


def answers(library):
    """All that is asked here of a library, errors by their names."""
    told = []
    for call in [joined, left, struck, falls, ranks, farthest, still, weights, ever, verdict]:
        try:
            told.append(call(library))
        except NearError as error:
            told.append(type(error).__name__)
    return told + [far(library, standing) for standing in left(library)]


def calls_of(act):
    """How many functions of the package are called, those of Python's own left out."""
    count = 0

    def seen(frame, event, arg):
        nonlocal count
        count += event == "call" and not frame.f_code.co_name.startswith("<")

    sys.setprofile(seen)
    try:
        act()
    finally:
        sys.setprofile(None)
    return count


class AnswersTest(NearCase):
    def test_the_library_of_twenty_standings(self):
        zeros = [(side, 0) for side in TWENTY.ports.sides()]
        self.same(joined(TWENTY), (JOINED, zeros))
        self.same(left(TWENTY), TWENTY.standings())
        sides = [(side, int(side in ONES)) for side, _ in zeros]
        self.same(ever(TWENTY), (EVER, (sides, [("a", 0), ("b", 1), ("c", 1), ("d", 1)])))
        self.same(verdict(TWENTY), ("ever", VERDICT))
        found = [far(TWENTY, standing) for standing in TWENTY.standings()]
        self.same(found, [0 if at in NEAR else None for at in range(20)])

    def test_more_libraries(self):
        for library, wanted in [
            (TWENTY, "dbfa6381da61da13"),
            (NUMBER, "5b6ac5d1522b2638"),
            (STRUCK, "595855633bcdc6d9"),
            (FEW, "6e1946563a737eab"),
            (FULL, "8974ef17a72c2eaa"),
            (HUNDRED, "15a27282649f9728"),
            (MORE, "7a0f690e5538bc5d"),
            (THIRTY, "571275e10795a9a5"),
            (NOBODY, "1b74c19869a47f8d"),
            (LONE, "19fc61fd877a54ea"),
            (ROW, "9f44f574f10af731"),
            (BOTH, "a4481a44e7c02f6b"),
            (CLOSED, "4d41d93a3e6e73d1"),
            (EITHER, "ca1e50ed888e2eed"),
            (ORDER, "93e15826d9380fed"),
            (TWO, "00086ddd8a004af6"),
        ]:
            self.assertEqual(hashlib.sha256(repr(answers(library)).encode()).hexdigest()[:16], wanted)

    def test_how_much_is_done(self):
        # All of these took at least five times as many calls before.
        self.assertEqual([len(library.standings()) for library in [TWENTY, NUMBER, STRUCK, FEW]], [20, 30, 30, 28])
        for call, most in [(left, 1300), (joined, 1300), (ever, 1800), (verdict, 2300), (farthest, 2100)]:
            for library in [TWENTY, NUMBER, STRUCK, FEW]:
                self.assertLess(calls_of(lambda: call(library)), most, call.__name__)


class StripsTest(unittest.TestCase):
    def test_rows_as_integers(self):
        top = 2 ** 7 - 1
        strips = Strips(5, 7)
        for row in [[0, 0, 0, 0, 0], [1, -1, top, -top, 0], [top] * 5, [-top] * 5, [0, 0, 0, 0, -1], [-1, 0, 0, 0, 0]]:
            packed = strips.packed(row)
            self.assertEqual([strips.column([packed], at) for at in range(5)], [[item] for item in row])
            below = [at for at, item in enumerate(row) if item < 0]
            self.assertEqual(strips.first_below(packed), below[0] if below else None)
            difference = packed - strips.packed([1, 0, 0, 0, -1]) + strips.base
            self.assertEqual(strips.column([difference, packed], 2), [row[2], row[2]])

    def test_tasks_whose_items_are_as_great_as_they_can_be(self):
        # Determinants of these rows are as great as the widths of places let them be, or nearly so.
        for top in [1, 9, 10 ** 6]:
            for many in [1, 2, 4, 8]:
                rows = [[top if (at & other).bit_count() % 2 == 0 else -top for other in range(many)] for at in range(many)]
                sums = [sum(row) for row in rows]
                self.assertEqual(solved(rows, sums), (([1] * many, 1), None))
                numbers, bottom, told, scale = least(rows, sums, [top] * many)
                self.assertEqual([numbers, bottom], [[1] * many, 1])
                self.assertEqual(sum(a * b for a, b in zip(sums, told)), scale * many * top)
                found = strict([row + [-item for item in row] for row in rows])
                self.assertTrue(min(found[0]) > 0)
        tableau = Tableau([[1, 2]], 0)
        self.assertEqual([tableau.columns, tableau.bottom], [2, 1])


if __name__ == "__main__":
    unittest.main()
