"""[122] joinings, what is left and what is struck, [124] own nets."""

import math
import random
import unittest

from nearhelp.counts import laid
from nearhelp.errors import InvalidStanding, NearError, NotLeft
from nearhelp.joins import is_joined, joined, left, own_net, struck
from nearhelp.libraries import read_library
from nearhelp.nets import Net
from tests import judges, makers
from tests.helpers import any_values, parts_to_any, tuples_to_lists
from tests.judged import JudgedCase, digits

X = "process x\n begin p1 q1\n refuse p1 if due q1 above 0"
# Nobody is at q2, so that x never has an end at q1.
NOBODY = read_library("port p 2\nport q 2\n" + X + "\nprocess y\n begin p2")
PLAIN = read_library("port p 2\nport q 2\n" + X + "\nprocess y\n begin p1\n begin p2\nprocess z\n begin q1\n begin q2")
LONE = read_library("port p 2\nprocess z\n begin p1")
A, B, C = (("p1",), ()), (("p1", "q1"), ("p1",)), (("p2",), ())
# A bag of all that is left has 100 standings, and here 5 kinds that refuse all, in one proportion alone: 101 in all.
HUNDRED = read_library("""port p 2
port q 2
port r 2
process u
 begin p1 r2 r1 r2
process v
 begin p1 r2 q1
 refuse q1 if 0 is 0
 refuse r2 if 0 is 0
process w
 begin r1 r2 q2
 refuse q2 if 0 is 0
 refuse r1 if 0 is 0
process x
 begin r2 p2 p2 p2
 refuse r2 if 0 is 0
process y
 begin q2 p1
 refuse p1 if 0 is 0
 refuse q2 if 0 is 0
process z
 begin p1
 refuse p1 if 0 is 0""")
MORE = read_library("""port p 2
port q 2
port r 2
port s 2
process a
 begin p1 q1 q1 q1
 refuse p1 if 0 is 0
 refuse q1 if 0 is 0
process b
 begin p2 r1
 refuse p2 if 0 is 0
 refuse r1 if 0 is 0
process c
 begin q2 q2 s1
 refuse q2 if 0 is 0
 refuse s1 if 0 is 0
process d
 begin r2 r2 r2
 refuse r2 if 0 is 0
process e
 begin s2 s2 s2 s2
 refuse s2 if 0 is 0""")
# Four ports of three sides, and 30 standings. Nobody is at r3, so that y is struck, and with it all at q.
THIRTY = read_library("""port p 3
port q 3
port r 3
port s 3
process x
 begin p1 p2 p3 q1
process y
 begin q2 q3 r1 r2
 refuse r1 if due q2 above 0
 refuse r2 if due q2 above 0
process z
 begin s1 s2
 begin s1 s3
 begin s2 s3""")
# The same ports, with somebody at all sides, so that nothing is struck.
FULL = read_library("""port p 3
port q 3
port r 3
port s 3
process x
 begin p1 p2 p3
 begin q1 q2 q3
 refuse p1 if due p2 above 0
process y
 begin r1 r2 r3
 begin s1 s2 s3
 refuse r1 if due r2 above 0
process z
 begin p1 p1
 begin q1 s1
 begin p2 r2""")


def standings_of(net):
    return [net.standing(hand) for hand in range(len(net.hands()))]


class JoinedTest(JudgedCase):
    def joined_judged(self, library):
        """What is joined is right, and what is left and struck is as it says; return the counts."""
        text = library.text()
        counts, signs = joined(library)
        self.assertTrue(judges.is_joined(library, (counts, signs)))
        self.assertIs(is_joined(library=library, value=(counts, signs)), True)
        self.assertEqual([type(counts), type(signs)], [list, list])
        self.assertLess(digits((counts, signs)), 301)
        if counts:
            self.assertEqual(math.gcd(*[number for _, number in counts]), 1)
        kept = [standing for standing, _ in counts]
        self.same(left(library=library), kept)
        self.same(struck(library=library), [standing for standing in library.standings() if standing not in kept])
        self.assertEqual(library.text(), text)
        return counts

    def test_nobody_at_a_side(self):
        self.assertEqual([standing for standing, _ in self.joined_judged(NOBODY)], [A, C])
        self.same([left(NOBODY), struck(NOBODY)], [[A, C], [B]])
        self.assertEqual(joined(NOBODY)[0], [(A, 1), (C, 1)])
        self.assertEqual(self.joined_judged(LONE), [])
        self.same([left(LONE), struck(LONE)], [[], [A]])
        self.assertTrue(is_joined(LONE, ([], [("p1", 5), ("p2", -5)])))
        self.assertFalse(is_joined(LONE, ([], [("p1", 0), ("p2", 0)])))

    def test_all_sides_plain(self):
        self.joined_judged(PLAIN)
        self.same([left(PLAIN), struck(PLAIN)], [PLAIN.standings(), []])

    def test_ends_that_are_too_many(self):
        # Each end of p1 needs one of p2, but each hand with one of p2 has two of p1.
        greedy = read_library("port p 2\nprocess x\n begin p1 p1 p2\n refuse p1 if due p2 above 0\n refuse p2 if 0 is 0")
        self.joined_judged(greedy)
        self.same(left(greedy), [])
        both = read_library("port p 2\nprocess x\n begin p1 p1 p2\n begin p2\n refuse p1 if due p2 above 0\n refuse p2 if 0 is 0")
        self.joined_judged(both)
        self.same(left(both), both.standings())

    def test_three_sides(self):
        library = read_library("port p 3\nprocess x\n begin p1 p2\n begin p3")
        self.joined_judged(library)
        self.same(left(library), library.standings())
        library = read_library("port p 3\nprocess x\n begin p1 p2\n refuse p1 if 0 is 0\n refuse p2 if 0 is 0\nprocess y\n begin p3 p3\n begin p2 p3")
        self.joined_judged(library)
        self.same(left(library), [(("p1", "p2"), ("p1", "p2")), (("p3",), ()), (("p3", "p3"), ())])
        self.same(struck(library), [(("p2",), ()), (("p2", "p3"), ())])

    def test_four_ports_of_three_sides_and_thirty_standings(self):
        self.assertEqual([len(THIRTY.standings()), len(THIRTY.ports.sides())], [30, 12])
        self.joined_judged(THIRTY)
        kept = {"p1", "p2", "p3", "s1", "s2", "s3"}
        self.assertEqual(left(THIRTY), [row for row in THIRTY.standings() if set(row[0]) <= kept])
        self.assertEqual([len(left(THIRTY)), len(struck(THIRTY))], [13, 17])
        self.joined_judged(FULL)
        self.assertEqual(struck(FULL), [])

    def test_random_libraries(self):
        rng, found = random.Random(122), []
        for _ in range(250):
            library = makers.make_any_library(rng)
            found.append((len(self.joined_judged(library)) == 0, struck(library) == []))
        self.assertEqual(set(found), {(True, False), (False, False), (False, True)})

    def test_no_net_has_what_is_struck(self):
        # All bags of at most five standings of small libraries, as far as they are balanced, have only what is left.
        rng = random.Random(1221)
        for _ in range(40):
            library = makers.make_library(rng, 1, False)
            rows = library.standings()
            if len(rows) > 6:
                continue
            kept = set(left(library))
            for bag in self.bags(rows, 5):
                if bag and judges.is_counts(library, sorted(bag.items())):
                    self.assertLessEqual(set(bag), kept)

    def bags(self, rows, most):
        if not rows:
            return [{}]
        rest = self.bags(rows[1:], most)
        return [
            {**bag, **({rows[0]: many} if many else {})}
            for bag in rest for many in range(most + 1 - sum(bag.values()))
        ]

    def test_judged(self):
        for library in [NOBODY, LONE, PLAIN, read_library("port p 3\nprocess x\n begin p1 p2\n begin p3")]:
            answer = joined(library)
            self.judged(lambda value: is_joined(library, value), lambda value: judges.is_joined(library, value), answer)
            counts, signs = answer
            more = ([(row, 3 * number) for row, number in counts], [(side, 7 * sign) for side, sign in signs])
            self.judged(lambda value: is_joined(library, value), lambda value: judges.is_joined(library, value), more)
        for sign, right in [(3, True), (1, True), (0, False), (-1, False), (-3, False)]:
            signs = [("p1", 0), ("p2", 0), ("q1", sign), ("q2", -sign)]
            self.assertIs(is_joined(NOBODY, ([(A, 1), (C, 1)], signs)), right)
        great = 10 ** 399
        signs = [("p1", 0), ("p2", 0), ("q1", great), ("q2", -great)]
        self.assertTrue(is_joined(NOBODY, ([(A, great), (C, great)], signs)))
        self.assertFalse(is_joined(NOBODY, ([(A, great), (C, great - 1)], signs)))
        self.assertFalse(is_joined(NOBODY, ([(A, 1), (C, 1)], [("p1", 1), ("p2", -1), ("q1", great), ("q2", -great)])))

    def test_equal_libraries_and_new_lists(self):
        for library in [NOBODY, PLAIN, LONE, FULL]:
            again = read_library(library.text())
            for call in [joined, left, struck]:
                self.same(call(again), call(library))
                self.new_throughout(lambda: call(library))


class OwnNetTest(JudgedCase):
    def check_star(self, library, standing):
        net = own_net(library=library, standing=standing)
        sides = judges.port_sides(library)
        others = [((other,), ()) for side in standing[0] for other in sides[side[:-1]] if other != side]
        self.assertTrue(Net(library, net.hands(), net.meetings()) == net)
        self.assertEqual(sorted(standings_of(net)[1:]), sorted(others))
        self.same([net.standing(0), len(net.meetings())], [standing, len(standing[0])])
        self.assertEqual(net.ties(0), [0] + [1] * len(others))

    def check_laid(self, library, standing):
        net = own_net(library, standing)
        self.assertTrue(net.library == library)
        self.assertTrue(Net(library, net.hands(), net.meetings()) == net)
        self.same(net.standing(0), standing)
        self.assertEqual(sorted(standings_of(net)), standings_of(laid(library, joined(library)[0])))

    def test_stars(self):
        for standing in PLAIN.standings():
            self.check_star(PLAIN, standing)
        library = read_library(
            "port p 3\nport q 2\nprocess x\n begin p1\n begin p2\n begin p3\nprocess y\n begin q1\n begin q2"
            "\nprocess z\n begin p1 p1 p3 q2\n begin p1 p2\n refuse p1 if due p3 above 0\n refuse p2 if 0 is 0"
        )
        for standing in library.standings():
            self.check_star(library, standing)
        self.assertEqual(len(own_net(library, (("p1", "p1", "p3", "q2"), ("p1",))).hands()), 8)

    def test_plain_is_a_standing_that_refuses_nothing(self):
        closed = read_library("port p 2\nprocess x\n begin p1\n begin p2\n refuse p2 if 0 is 0")
        for standing in [(("p1",), ()), (("p2",), ("p2",))]:
            self.check_laid(closed, standing)
        self.assertEqual(len(own_net(closed, (("p1",), ())).hands()), 4)

    def test_ports_that_are_not_used(self):
        library = read_library("port p 2\nport q 2\nprocess x\n begin p1\n begin p2")
        self.check_laid(library, (("p2",), ()))
        self.assertEqual(len(own_net(library, (("p1",), ())).hands()), 4)

    def test_nets_of_counts(self):
        closed = read_library("port p 3\nprocess x\n begin p1 p2\n refuse p1 if 0 is 0\nprocess y\n begin p3")
        for library in [NOBODY, closed]:
            for standing in left(library):
                self.check_laid(library, standing)

    def test_two_hundred_hands_and_more(self):
        self.assertEqual(sum(number for _, number in joined(HUNDRED)[0]), 100)
        for standing in left(HUNDRED):
            self.check_laid(HUNDRED, standing)
        self.assertEqual([len(own_net(HUNDRED, left(HUNDRED)[0]).hands()), struck(MORE)], [200, []])
        for standing in MORE.standings():
            self.counts(202, own_net, MORE, standing)

    def test_random_libraries(self):
        rng, kinds = random.Random(124), {}
        for _ in range(150):
            library = makers.make_any_library(rng)
            counts = joined(library)[0]
            many = max(sides for _, sides in library.ports.kinds) * sum(number for _, number in counts)
            plain = all(((side,), ()) in library.standings() for side in library.ports.sides())
            for standing in library.standings():
                if standing not in dict(counts):
                    kind = "struck"
                    self.refuses(NotLeft, standing, own_net, library, standing)
                elif plain:
                    kind = "star"
                    self.check_star(library, standing)
                elif many > 200:
                    kind = "many"
                    self.counts(many, own_net, library, standing)
                else:
                    kind = "laid"
                    self.check_laid(library, standing)
                kinds[kind] = kinds.get(kind, 0) + 1
        self.assertLessEqual({"laid", "star", "struck"}, set(kinds))
        self.assertGreater(min(kinds["laid"], kinds["star"], kinds["struck"]), 50)

    def test_errors_in_their_order(self):
        wrong = any_values() + [(["p1"], ()), [("p1",), ()], (("p1",), ("p1",)), (("q2",), ()), (("p1", "q1"), ())]
        for library in [NOBODY, MORE]:
            for value in wrong + tuples_to_lists(B) + parts_to_any(B):
                self.refuses(InvalidStanding, value, own_net, library, value)
                self.refuses(InvalidStanding, value, own_net, library=library, standing=value)
        self.refuses(NotLeft, B, own_net, NOBODY, B)
        self.refuses(NotLeft, A, own_net, LONE, A)
        # A standing that is struck, in a library in which those that are left make too many hands.
        text = MORE.text().replace("process e\n begin s2 s2 s2 s2", "process e\n begin s2 s2 s2 s2\n begin s2 s1 s1")
        library = read_library(text + "\n refuse s1 if due s2 above 9")
        with self.assertRaises(NearError):
            own_net(library, library.standings()[0])
        for standing in struck(library):
            self.refuses(NotLeft, standing, own_net, library, standing)

    def test_equal_libraries(self):
        for library in [NOBODY, PLAIN, HUNDRED]:
            again = read_library(library.text())
            for standing in left(library):
                self.assertTrue(own_net(again, standing) == own_net(library, standing))


if __name__ == "__main__":
    unittest.main()
