"""[121] counts, [123] nets of them."""

import random
import unittest

from nearhelp.counts import is_counts, laid
from nearhelp.errors import InvalidCounts
from nearhelp.libraries import read_library
from nearhelp.nets import Net
from tests import judges, makers
from tests.helpers import NearCase, any_values
from tests.judged import JudgedCase

X, Y = "process x\n begin p1 q2\n refuse p1 if due q2 above 0", "process y\n begin p2\n begin q1"
ORDER = read_library("port p 2\nport q 2\n" + X + "\n" + Y)
A, B, C, D = (("p1", "q2"), ("p1",)), (("p2",), ()), (("q1",), ()), (("p1",), ())
RING = read_library("port p 2\nprocess aid\n begin p1 p1 p2 p2\n refuse p1 if due p2 above 1")
FOUR = (("p1", "p1", "p2", "p2"), ("p1",))
# A port of three sides, of which one hand has two, and one that no process has.
THREE = read_library("port p 3\nport q 2\nprocess x\n begin p1 p2 p2\nprocess y\n begin p3\n begin p1 p3")
E, F, G = (("p1", "p2", "p2"), ()), (("p3",), ()), (("p1", "p3"), ())


def standings_of(net):
    return [net.standing(hand) for hand in range(len(net.hands()))]


def some_counts(rng, library, most=6):
    """Counts of a library whose sides are all plain: some standings, and plain ones as far as they are needed."""
    bag = {}
    for standing in [rng.choice(library.standings()) for _ in range(rng.randint(1, most))]:
        bag[standing] = bag.get(standing, 0) + rng.randint(1, 2)
    for sides in judges.port_sides(library).values():
        ends = [judges.ends(list(bag.items()), side) for side in sides]
        for side, many in zip(sides, ends):
            plain = ((side,), ())
            if many < max(ends):
                bag[plain] = bag.get(plain, 0) + max(ends) - many
    return sorted(bag.items())


class CountsTest(JudgedCase):
    def test_balanced_and_not(self):
        for value in [[], (), [(A, 1), (B, 1), (C, 1)], ((A, 7), (B, 7), (C, 7)), [(D, 2), (A, 1), (B, 3), (C, 1)]]:
            self.assertIs(is_counts(ORDER, value), True)
        self.assertIs(is_counts(library=ORDER, value=[(D, 10 ** 399), (B, 10 ** 399)]), True)
        for value in [[(A, 1)], [(A, 1), (B, 2), (C, 1)], [(A, 1), (B, 1)], [(D, 10 ** 399), (B, 10 ** 399 + 1)], [(B, 1)]]:
            self.assertIs(is_counts(ORDER, value), False)
        self.assertIs(is_counts(THREE, [(E, 1), (F, 1)]), False)
        self.assertIs(is_counts(THREE, [(E, 1), (G, 1), (F, 1)]), True)
        self.assertIs(is_counts(THREE, [(E, 2), (G, 2), (F, 3)]), False)

    def test_order_and_different_standings(self):
        rows = [(D, 2), (A, 1), (B, 3), (C, 1)]
        self.assertIs(is_counts(ORDER, rows), True)
        for value in [rows[::-1], rows[1:2] + rows[:1] + rows[2:], [(D, 1), (D, 1), (A, 1), (B, 3), (C, 1)], [(D, 1), (B, 1)] * 2]:
            self.assertIs(is_counts(ORDER, value), False)

    def test_judged(self):
        for library, value in [(ORDER, [(D, 2), (A, 1), (B, 3), (C, 1)]), (THREE, [(E, 1), (G, 1), (F, 1)]), (RING, [(FOUR, 3)])]:
            self.judged(lambda other: is_counts(library, other), lambda other: judges.is_counts(library, other), value, 40)

    def test_any_value(self):
        for value in any_values():
            self.assertIs(is_counts(ORDER, value), repr(value) in ("[]", "()"))
            self.assertIs(is_counts(ORDER, [value]), False)
            self.assertIs(is_counts(ORDER, [(D, value), (B, 1)]), value == 1 and type(value) is int)
            self.assertIs(is_counts(ORDER, [(value, 1), (B, 1)]), False)

    def test_random_ones(self):
        rng, told = random.Random(121), []
        for _ in range(100):
            library = makers.make_library(rng)
            value = some_counts(rng, library)
            self.assertIs(is_counts(library, value), True)
            at = rng.randrange(len(value))
            other = value[:at] + [(value[at][0], value[at][1] + rng.choice([1, -1]))] + value[at + 1:]
            told.append(is_counts(library, other))
            self.assertIs(told[-1], judges.is_counts(library, other))
        self.assertIn(False, told)


class LaidTest(NearCase):
    def check(self, library, counts):
        told = repr(counts)
        net = laid(library, counts)
        self.assertIs(type(net), Net)
        self.assertTrue(net.library == library)
        copies = max(sides for _, sides in library.ports.kinds)
        self.same(standings_of(net), [standing for standing, number in counts for _ in range(copies * number)])
        # What a net is, is asked of its hands and meetings once more.
        self.assertTrue(Net(library, net.hands(), net.meetings()) == net)
        self.assertTrue(laid(library=library, counts=judges.as_tuples(counts)) == net)
        self.assertEqual(repr(counts), told)
        return net

    def test_nets(self):
        net = self.check(ORDER, [(D, 2), (A, 1), (B, 3), (C, 1)])
        self.same([len(net.hands()), len(net.meetings())], [14, 8])
        net = self.check(THREE, [(E, 1), (G, 1), (F, 1)])
        self.same([len(net.hands()), len(net.meetings())], [9, 6])
        self.check(RING, [(FOUR, 1)])
        self.same(len(laid(RING, [(FOUR, 1)]).meetings()), 4)

    def test_two_hundred_hands_and_more(self):
        net = self.check(RING, [(FOUR, 100)])
        self.same([len(net.hands()), len(net.meetings())], [200, 400])
        self.counts(202, laid, RING, [(FOUR, 101)])
        self.check(THREE, [(E, 22), (G, 22), (F, 22)])
        self.counts(207, laid, THREE, [(E, 23), (G, 23), (F, 23)])
        self.counts(240, laid, ORDER, ((A, 40), (B, 40), (C, 40)))
        great = 10 ** 399
        self.counts(6 * great, laid, ORDER, [(A, great), (B, great), (C, great)])

    def test_ports_that_are_not_used_count(self):
        library = read_library("port p 2\nport q 3\nprocess x\n begin p1\n begin p2")
        self.assertEqual(len(self.check(library, [((("p1",), ()), 2), ((("p2",), ()), 2)]).hands()), 12)

    def test_no_counts(self):
        wrong = any_values() + [[(A, 1)], [(B, 1), (A, 1), (C, 1)], [[A, 1], [B, 1], [C, 1]], [(A, True), (B, 1), (C, 1)]]
        wrong += [[(A, 0), (B, 0), (C, 0)], [(A, 1), (B, 1), (C, 2)], [(A, 200), (B, 1), (C, 1)], ([],)]
        for counts in wrong:
            self.refuses(InvalidCounts, counts, laid, ORDER, counts)
            self.refuses(InvalidCounts, counts, laid, library=ORDER, counts=counts)

    def test_random_ones(self):
        rng, great = random.Random(123), 0
        for _ in range(150):
            library = makers.make_library(rng, helping=rng.random() < 0.7)
            counts = some_counts(rng, library, rng.choice([2, 12, 50]))
            many = max(sides for _, sides in library.ports.kinds) * sum(number for _, number in counts)
            if many > 200:
                great += 1
                self.counts(many, laid, library, counts)
            else:
                self.check(library, counts)
        self.assertGreater(great, 5)

    def test_equal_libraries(self):
        counts = [(D, 2), (A, 1), (B, 3), (C, 1)]
        again = read_library(ORDER.text())
        self.assertTrue(laid(again, counts) == laid(ORDER, counts))
        self.same(laid(again, counts).meetings(), laid(ORDER, counts).meetings())


if __name__ == "__main__":
    unittest.main()
