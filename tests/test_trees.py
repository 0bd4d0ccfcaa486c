"""[151] trees of refusers."""

import random
import unittest

from nearhelp.errors import InvalidDepth, InvalidStanding, Near, NotLeft
from nearhelp.joins import left, struck
from nearhelp.libraries import read_library
from nearhelp.ranks import far
from nearhelp.trees import is_refusers, refusers
from tests import judges, judges_waits, makers
from tests.helpers import any_values, parts_to_any, tuples_to_lists
from tests.judged import JudgedCase
from tests.test_joins import LONE, NOBODY
from tests.test_ranks import ROW, THREE
from tests.test_stills import BOTH, CLOSED, EITHER, LAST, LONG

WRONG_DEPTHS = [value for value in any_values() if value not in (0, 1, 2)] + [-1, 6, 7, 10 ** 399, True, False, "1", 1.0]
# Three ways to hold up q1: by one hand that nobody can hold up shortly, by one with three open ends, by one with two.
WAYS = read_library("""port p 3
port q 2
port r 2
process plaina
 begin p1
 begin p2
 begin p3
process plainb
 begin q1
 begin q2
 begin r1
process plainc
 begin r2
process x
 begin q2 r1 r1 r1
 begin q2 p1
 refuse q2 if due r1 above 2
 refuse q2 if due p1 above 0
process y
 begin r2 p2 p2
 begin p3 r1
 begin p2 q1
 refuse r2 if due p2 above 1
 refuse p3 if due r1 above 0
 refuse p2 if due q1 above 0""")

# Each hand that refuses has two open ends, or one of them has one: where one end has gone, nothing is refused.
SIXTY = read_library("""port p 2
port q 2
port r 2
port s 2
process aid
 begin p1 p2 p2
 refuse p1 if due p2 above 1
process n
 begin q1 p2
 refuse q1 if due p2 above 0
process o
 begin r1 p2 q2
 refuse r1 if both due p2 above 0 due q2 above 0
process t
 begin s1 p2 r2
 refuse s1 if both due p2 above 0 due r2 above 0
process call
 begin p2 p2 p2 s2
 begin p2 p2 p2 p2""")


class TreesCase(JudgedCase):
    def checks(self, library, standing, depth, known=None):
        """The tree that is returned, or the error that is raised, is as the point tells; return the number of nodes."""
        kept, text = left(library), library.text()
        away = far(library, standing)
        least = judges_waits.least_nodes(library, kept, standing, depth, known)
        self.assertIs(least is None, away is not None and away < depth)
        if least is None:
            with self.assertRaises(Near) as caught:
                refusers(library, standing, depth)
            self.same(vars(caught.exception), {"far": away})
            return 0
        if least > 60:
            self.counts(least, refusers, library, standing, depth)
            return least
        tree = refusers(library=library, standing=standing, depth=depth)
        self.assertTrue(judges_waits.is_refusers(library, standing, depth, tree, kept))
        self.assertIs(is_refusers(library=library, standing=standing, depth=depth, value=tree), True)
        self.assertEqual([type(tree), len(tree)], [list, least])
        self.assertEqual(library.text(), text)
        return least


class RefusersTest(TreesCase):
    def test_all_depths(self):
        for depth in range(6):
            self.assertEqual(self.checks(EITHER, LAST, depth), 2 ** depth)
            self.assertEqual(self.checks(EITHER, LONG, depth), 2 ** (depth + 1) - 1)
            self.assertEqual(self.checks(EITHER, (("p1",), ()), depth), 1 if depth == 0 else 0)
        self.counts(63, refusers, EITHER, LONG, 5)

    def test_just_as_far_and_less_far(self):
        # p2 is 7 far, p1 is 3 far.
        for standing, away in [((("p2",), ()), 7), ((("p1",), ()), 3), ((("s1",), ()), 0)]:
            self.assertEqual(far(ROW, standing), away)
            for depth in range(6):
                self.assertEqual(self.checks(ROW, standing, depth), depth + 1 if depth <= away else 0)

    def test_several_ends_of_one_side(self):
        tree = refusers(EITHER, LONG, 1)
        self.assertEqual([node[1:] for node in tree], [(None, None, None), (0, "p2", "p1"), (0, "p2", "p1")])
        # The refused end has no children, and the two open ends of one side have one each.
        library = read_library(EITHER.text() + "\nprocess call\n begin p2 p2 p2 p2")
        self.assertEqual([self.checks(library, (("p2",) * 4, ()), depth) for depth in range(4)], [1, 5, 13, 29])
        self.counts(61, refusers, library, (("p2",) * 4, ()), 4)

    def test_sixty_nodes_and_more(self):
        # Behind an end at p2 are 15 nodes at most three deep, behind one at s2 are 14.
        self.assertEqual([self.checks(SIXTY, (("p2",) * 3 + ("s2",), ()), depth) for depth in range(6)], [1, 5, 13, 29, 60, 122])
        self.counts(122, refusers, SIXTY, (("p2",) * 3 + ("s2",), ()), 5)
        self.assertEqual(self.checks(SIXTY, (("p2",) * 4, ()), 4), 61)
        self.counts(61, refusers, SIXTY, (("p2",) * 4, ()), 4)

    def test_the_least_of_several_ways(self):
        self.assertEqual(far(WAYS, (("q1",), ())), None)
        counts = [self.checks(WAYS, (("q1",), ()), depth) for depth in range(6)]
        self.assertEqual(counts, [1, 2, 3, 4, 5, 6])
        for standing in left(WAYS):
            known = {}
            for depth in range(6):
                self.checks(WAYS, standing, depth, known)

    def test_nothing_open(self):
        closed = (("p1", "p1"), ("p1",))
        self.assertEqual([self.checks(CLOSED, closed, depth) for depth in range(6)], [1] * 6)
        self.same(refusers(CLOSED, closed, 5), [(closed, None, None, None)])

    def test_three_sides(self):
        library = read_library(THREE + "\n refuse p2 if due q1 above 0")
        for standing in left(library):
            for depth in range(6):
                self.checks(library, standing, depth)

    def test_random_libraries(self):
        rng, found = random.Random(151), {}
        for _ in range(150):
            library = makers.make_any_library(rng)
            known = {}
            for standing in left(library):
                for depth in range(6):
                    many = self.checks(library, standing, depth, known)
                    found[min(many, 61)] = found.get(min(many, 61), 0) + 1
        self.assertLessEqual({0, 1, 2, 3, 4, 7, 61}, set(found))

    def test_equal_libraries_and_new_lists(self):
        for library, standing, depth in [(EITHER, LONG, 3), (ROW, (("p2",), ()), 5), (WAYS, (("q1",), ()), 4)]:
            again = read_library(library.text())
            self.same(refusers(again, standing, depth), refusers(library, standing, depth))
            self.new_throughout(lambda: refusers(library, standing, depth))


class JudgeTest(TreesCase):
    def judged_tree(self, library, standing, depth, tree, least=20):
        kept = left(library)
        call = lambda value: is_refusers(library, standing, depth, value)
        self.judged(call, lambda value: judges_waits.is_refusers(library, standing, depth, value, kept), tree, least)

    def test_trees(self):
        for depth in range(4):
            self.judged_tree(EITHER, LAST, depth, refusers(EITHER, LAST, depth), 10)
        self.judged_tree(EITHER, LONG, 2, refusers(EITHER, LONG, 2))
        self.judged_tree(ROW, (("p2",), ()), 4, refusers(ROW, (("p2",), ()), 4))
        self.judged_tree(CLOSED, (("p1", "p1"), ("p1",)), 3, [((("p1", "p1"), ("p1",)), None, None, None)], 10)

    def test_other_trees(self):
        # More nodes than are needed, and children in other orders.
        q, long, short = (("q1",), ()), (("q2", "r1", "r1", "r1"), ("q2",)), (("p1", "q2"), ("q2",))
        top = (q, None, None, None)
        self.assertEqual(refusers(WAYS, q, 1), [top, (short, 0, "q1", "q2")])
        self.judged_tree(WAYS, q, 1, [top, (long, 0, "q1", "q2")], 10)
        rest = [((("p2", "p2", "r2"), ("r2",)), 1, "r1", "r2") for _ in range(3)]
        self.judged_tree(WAYS, q, 2, [top, (long, 0, "q1", "q2")] + rest)
        other = (("p2", "q1"), ("p2",))
        self.judged_tree(WAYS, q, 2, [top, (short, 0, "q1", "q2"), (other, 1, "p1", "p2")])
        tree = refusers(EITHER, LONG, 2)
        first = [tree[0], tree[1], (LONG, 1, "p2", "p1"), (LONG, 0, "p2", "p1"), (LONG, 3, "p2", "p1")]
        self.judged_tree(EITHER, LONG, 2, first + [(LONG, 1, "p2", "p1"), (LONG, 3, "p2", "p1")])
        self.assertIs(is_refusers(EITHER, LONG, 2, first + [(LONG, 2, "p2", "p1"), (LONG, 3, "p2", "p1")]), False)

    def test_trees_that_are_too_great_to_be_returned(self):
        for depth, standing in [(5, LONG), (5, (("p2", "p2", "p2", "p2"), ()))]:
            library = read_library(EITHER.text() + "\nprocess call\n begin p2 p2 p2 p2")
            tree, start = [(standing, None, None, None)], 0
            for _ in range(depth):
                end = len(tree)
                for at in range(start, end):
                    tree += [(LONG, at, "p2", "p1") for _ in judges_waits.opens(tree[at][0])]
                start = end
            self.counts(len(tree), refusers, library, standing, depth)
            self.assertIs(is_refusers(library, standing, depth, tree), True)
            self.assertIs(is_refusers(library, standing, depth, tree[:-1]), False)
            self.assertIs(is_refusers(library, standing, depth - 1, tree), False)

    def test_wrong_trees(self):
        call = [(LAST, None, None, None)]
        child = (LONG, 0, "p2", "p1")
        for value in [[], call * 2, call + [child] * 2, call + [child, (LONG, 1, "p2", "p1")], [child], call + [(LAST, 0, "p2", "p1")]]:
            self.assertIs(is_refusers(EITHER, LAST, 1, value), False)
        for value in [call + [(LONG, 1, "p2", "p1")], call + [(LONG, -1, "p2", "p1")], call + [(LONG, False, "p2", "p1")]]:
            self.assertIs(is_refusers(EITHER, LAST, 1, value), False)
        for value in [call + [(LONG, 0, "p1", "p1")], call + [(LONG, 0, "p2", "p2")], call + [(LONG, 0, "p2")], call + [list(child)]]:
            self.assertIs(is_refusers(EITHER, LAST, 1, value), False)
        self.assertIs(is_refusers(EITHER, LAST, 1, call + [child]), True)
        self.assertIs(is_refusers(EITHER, LAST, 1, (call + [child]) * 1000), False)
        # There is no tree of a standing that is less far than the depth.
        for value in any_values() + [call, [((("p1",), ()), None, None, None)]]:
            self.assertIs(is_refusers(EITHER, (("p1",), ()), 1, value), False)

    def test_children_in_any_order(self):
        held = (("p2", "q2", "r1"), ("r1",))
        first, second = (LONG, 0, "p2", "p1"), ((("p2", "q1"), ("q1",)), 0, "q2", "q1")
        for children in [[first, second], [second, first]]:
            self.judged_tree(SIXTY, held, 1, [(held, None, None, None)] + children)
        self.assertIs(is_refusers(SIXTY, held, 1, [(held, None, None, None), second, first]), True)

    def test_refusers_of_the_other_side_alone(self):
        # The standing of a child refuses the very side that is told, and this is another side of the open end's port.
        both = "\nprocess u\n begin p1 q1 p2\n refuse p1 if 0 is 0\n refuse q1 if due p2 above 0\nprocess v\n begin q2"
        library = read_library(EITHER.text().replace("port p 2", "port p 2\nport q 2") + both)
        held, call = (("p1", "p2", "q1"), ("p1", "q1")), [(LAST, None, None, None)]
        self.assertIn(held, left(library))
        for child, right in [((held, 0, "p2", "p1"), True), ((held, 0, "p2", "q1"), False), (((("p1",), ()), 0, "p2", "p1"), False), (((("p1", "p2"), ()), 0, "p2", "p1"), False)]:
            self.assertIs(is_refusers(library, LAST, 1, call + [child]), right)

    def test_standings_that_are_struck_are_in_no_tree(self):
        struck_one = (("p1", "q1"), ("p1",))
        self.assertEqual(struck(NOBODY), [struck_one])
        tree = [(LAST, None, None, None), (struck_one, 0, "p2", "p1")]
        self.assertIs(is_refusers(NOBODY, LAST, 1, tree), False)


class ErrorsTest(TreesCase):
    def calls(self):
        return [refusers, lambda library, standing, depth: is_refusers(library, standing, depth, None)]

    def test_standings(self):
        wrong = any_values() + [(["p1"], ()), [("p1",), ()], (("p1",), ("p1",)), (("q2",), ())]
        for value in wrong + tuples_to_lists(LONG) + parts_to_any(LONG):
            for call in self.calls():
                self.refuses(InvalidStanding, value, call, EITHER, value, None)
                self.refuses(InvalidStanding, value, call, LONE, standing=value, depth=1)

    def test_not_left(self):
        standing = LONE.standings()[0]
        for depth in [0, 6, None]:
            for call in self.calls():
                self.refuses(NotLeft, standing, call, LONE, standing, depth)
                self.refuses(NotLeft, (("p1", "q1"), ("p1",)), call, NOBODY, (("p1", "q1"), ("p1",)), depth)

    def test_depths(self):
        for value in WRONG_DEPTHS:
            for call in self.calls():
                self.refuses(InvalidDepth, value, call, EITHER, LONG, value)
                self.refuses(InvalidDepth, value, call, library=EITHER, standing=(("p1",), ()), depth=value)

    def test_near_comes_before_too_many(self):
        self.refuses_near(EITHER, (("p1",), ()), 5, 0)
        self.refuses_near(ROW, (("p1",), ()), 4, 3)
        self.refuses_near(BOTH, (("p1",), ()), 1, 0)

    def refuses_near(self, library, standing, depth, away):
        with self.assertRaises(Near) as caught:
            refusers(library, standing, depth)
        self.assertIs(type(caught.exception), Near)
        self.same(caught.exception.far, away)


if __name__ == "__main__":
    unittest.main()
