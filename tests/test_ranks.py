"""[141] falls and ranks, [142] far; and the words of [7] that they are told by."""

import random
import unittest

from nearhelp.errors import InvalidStanding, NoNet, NotLeft
from nearhelp.joins import left, struck
from nearhelp.libraries import read_library
from nearhelp.ranks import falls, far, farthest, ranks
from tests import judges, makers
from tests.helpers import any_values, parts_to_any, tuples_to_lists
from tests.judged import JudgedCase
from tests.test_joins import FULL, LONE, NOBODY, PLAIN
from tests.test_stills import BOTH, CLOSED, EITHER

A, B, C = (("p1",), ()), (("p1", "q1"), ("p1",)), (("p2",), ())
# Each of seven sides is refused as long as one is due whose other side is the next one of p1 q1 r1 s1 p2 q2 r2 s2.
ROW = read_library("""port p 2
port q 2
port r 2
port s 2
process a
 begin p1
 begin p2
 begin q1
process b
 begin q2
 begin r1
 begin r2
process c
 begin s1
 begin s2
process u
 begin p1 q2
 begin q1 r2
 begin r1 s2
 refuse p1 if due q2 above 0
 refuse q1 if due r2 above 0
 refuse r1 if due s2 above 0
process v
 begin p1 s1
 begin p2 q1
 begin q2 r1
 refuse s1 if due p1 above 0
 refuse p2 if due q1 above 0
 refuse q2 if due r1 above 0
process w
 begin r2 s1
 refuse r2 if due s1 above 0""")
SIDES = ["p1", "q1", "r1", "s1", "p2", "q2", "r2", "s2"]
# A port of three sides: an open end is as good as the better one of its other sides is bad.
THREE = """port p 3
port q 2
process a
 begin p1
 begin p2
 begin p3
process b
 begin q1
 begin q2
process x
 begin p1 q1
 begin p2 q1
 refuse p1 if due q1 above 0"""


class FallsTest(JudgedCase):
    def ranks_judged(self, library):
        """Falls, ranks and how far standings are, are as [7] tells; return the falls."""
        text = library.text()
        kept = left(library)
        told = judges.falls(library, kept)
        found = falls(library=library)
        self.assertEqual(found, [tuple(sorted(row)) for row in told[:len(found)]])
        self.assertTrue(all(first != second for first, second in zip(found, found[1:])))
        self.assertEqual(set(found[-1]), told[-1])
        self.assertLessEqual(len(found), len(library.ports.sides()))
        wanted = []
        for side in library.ports.sides():
            wanted.append((side, next((d for d, row in enumerate(told) if side not in row), None)))
        self.same(ranks(library=library), wanted)
        distances = []
        for standing in library.standings():
            if standing not in kept:
                self.refuses(NotLeft, standing, far, library, standing)
                continue
            away = next((d for d, row in enumerate(told) if not judges.is_blocked(library, standing, row)), None)
            self.same([far(library, standing), far(library=library, standing=standing)], [away, away])
            distances.append(away)
        if not kept:
            with self.assertRaises(NoNet):
                farthest(library)
        else:
            self.same(farthest(library=library), None if None in distances else max(distances))
        self.assertEqual(library.text(), text)
        return found

    def test_falls_that_end_at_once(self):
        for library, wanted in [(LONE, [()]), (NOBODY, [()]), (EITHER, [("p1",)]), (BOTH, [("p1",)]), (CLOSED, [("p1",)])]:
            self.same(self.ranks_judged(library), wanted)
        self.same(self.ranks_judged(PLAIN), [("p1",), ()])
        self.same([ranks(LONE), ranks(EITHER)], [[("p1", 0), ("p2", 0)], [("p1", None), ("p2", 0)]])
        self.same([farthest(NOBODY), farthest(EITHER), farthest(PLAIN)], [0, None, 1])

    def test_falls_of_many_items(self):
        self.same(self.ranks_judged(ROW), [tuple(sorted(SIDES[:many])) for many in range(7, -1, -1)])
        self.same(ranks(ROW), sorted([(side, 7 - at) for at, side in enumerate(SIDES)]))
        self.same([far(ROW, ((side,), ())) for side in SIDES], [3, 2, 1, 0, 7, 6, 5, 4])
        self.same([far(ROW, (("p1", "q2"), ("p1",))), farthest(ROW)], [6, 7])

    def test_ports_of_three_sides(self):
        library = read_library(THREE)
        self.same(self.ranks_judged(library), [("p1",), ()])
        self.same([far(library, ((side,), ())) for side in ["p1", "p2", "p3", "q2"]], [0, 1, 1, 0])
        library = read_library(THREE + "\n refuse p2 if due q1 above 0\nprocess y\n begin p3 q2\n refuse q2 if due p3 above 0")
        self.same(self.ranks_judged(library), [("p1", "p2", "q2")])
        self.same([far(library, ((side,), ())) for side in ["p1", "p2", "p3", "q1", "q2"]], [None, None, None, None, 0])

    def test_nothing_open(self):
        closed = (("p1", "p2"), ("p1", "p2"))
        library = read_library("port p 2\nprocess x\n begin p1 p2\n refuse p1 if 0 is 0\n refuse p2 if 0 is 0\nprocess y\n begin p1\n begin p2")
        self.same(self.ranks_judged(library), [("p1", "p2")])
        self.same([far(library, closed), far(library, A), farthest(library)], [None, None, None])

    def test_random_libraries(self):
        rng, kinds = random.Random(141), set()
        for _ in range(250):
            library = makers.make_any_library(rng)
            found = self.ranks_judged(library)
            kinds.add((len(found), found[-1] == (), left(library) == []))
        self.assertLessEqual({(1, True, True), (1, True, False), (1, False, False), (2, True, False), (2, False, False), (3, True, False)}, kinds)

    def test_errors_in_their_order(self):
        wrong = any_values() + [(["p1"], ()), [("p1",), ()], (("p1",), ("p1",)), (("q2",), ()), (("p1", "q1"), ())]
        for value in wrong + tuples_to_lists(B) + parts_to_any(B):
            for library in [NOBODY, LONE]:
                self.refuses(InvalidStanding, value, far, library, value)
                self.refuses(InvalidStanding, value, far, library=library, standing=value)
        self.assertEqual(struck(NOBODY), [B])
        self.refuses(NotLeft, B, far, NOBODY, B)
        with self.assertRaises(NoNet) as caught:
            farthest(LONE)
        self.assertIs(type(caught.exception), NoNet)

    def test_equal_libraries_and_new_lists(self):
        for library in [ROW, EITHER, LONE, PLAIN]:
            again = read_library(library.text())
            for call in [falls, ranks]:
                self.same(call(again), call(library))
                self.new_throughout(lambda: call(library))
            for standing in left(library):
                self.same(far(again, standing), far(library, standing))


if __name__ == "__main__":
    unittest.main()
