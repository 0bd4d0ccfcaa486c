"""[71], [72] books and ways."""

import random
import unittest

from nearhelp.books import Book
from nearhelp.errors import InvalidIndex, InvalidState, NotDue, Refused, TooMany
from nearhelp.hands import begin_state, standing, step
from nearhelp.ports import Ports
from nearhelp.processes import Process
from tests import makers
from tests.helpers import NearCase, any_values, integers_to_bools, parts_to_any, tuples_to_lists
from tests.model import Model
from tests.test_hands import NO_STATES

SMALL = Ports([("p", 2), ("q", 2)])
WIDE = Ports([("p", 3), ("q", 3), ("r", 3), ("s", 3)])


def tea():
    does = [("p2", [("set", "cup", 1)]), ("q1", [("add", "cup", 1)])]
    begins = [["q1", "p2", "p2"], ["q2"], ["p2", "q1", "p2"]]
    return Process(SMALL, "tea", [("cup", 2)], begins, does, [("q1", ("is", "cup", 0))])


TEA_STATES = [
    ((0,), ("p2", "p2", "q1")), ((0,), ("q2",)), ((1,), ("p2", "q1")), ((1,), ("q1",)), ((2,), ("p2",)),
]


class BookTest(NearCase):
    def test_states_standings_and_places(self):
        book = Book(tea())
        self.same(book.states(), TEA_STATES)
        self.same([book.place(state) for state in TEA_STATES], [0, 1, 2, 3, 4])
        self.assertEqual(book.place(state=TEA_STATES[3]), 3)
        refused = [("q1",), (), (), (), ()]
        told = [(state[1], closed) for state, closed in zip(TEA_STATES, refused)]
        self.same([book.standing(index) for index in range(5)], told)
        self.assertEqual(book.standing(index=0), told[0])
        self.same(book.standings(), sorted(told))
        self.assertTrue(book.process == tea())
        self.assertTrue(Book(process=tea()).process == tea())

    def test_after(self):
        book = Book(tea())
        self.same([book.after(0, "p2"), book.after(1, "q2"), book.after(2, "p2")], [2, None, 3])
        self.same([book.after(2, "q1"), book.after(3, "q1"), book.after(index=4, side="p2")], [4, None, None])

    def test_equal_standings_are_told_once(self):
        does = [("p1", [("add", "a", 1)])]
        book = Book(Process(SMALL, "x", [("a", 3)], [["q1", "p1", "p1"], ["q1"]], does, []))
        lots = [("p1", "p1", "q1"), ("q1",), ("p1", "p1"), ("p1", "q1"), ("p1",), ("q1",)]
        values = [0, 0, 0, 1, 1, 2]
        self.same(book.states(), sorted([((value,), lot) for value, lot in zip(values, lots)]))
        self.same(book.standings(), sorted([(lot, ()) for lot in set(lots)]))

    def test_only_states_that_hands_come_to(self):
        refuses = [("p1", ("above", ("due", "p2"), 0))]
        book = Book(Process(SMALL, "x", [], [["p1", "p2", "p2"]], [], refuses))
        self.same([state[1] for state in book.states()], [("p1",), ("p1", "p2"), ("p1", "p2", "p2")])
        closed = Book(Process(SMALL, "x", [], [["p1", "p2"]], [], [("p1", ("is", 0, 0)), ("p2", ("is", 0, 0))]))
        self.same(closed.states(), [((), ("p1", "p2"))])
        self.refuses(Refused, "p1", closed.after, 0, "p1")

    def test_no_states(self):
        book = Book(tea())
        others = [((0,), ()), ((1,), ("q2",)), ((0,), ("p2", "q1")), ((3,), ("p2",)), ((True,), ("q1",)), [(1,), ("q1",)]]
        others += [((1,), ["q1"]), ([1], ("q1",)), ((1,), "q1"), (1, ("q1",)), ((0,), ("p2", "q1", "p2"))]
        for value in others + NO_STATES + any_values():
            self.refuses(InvalidState, value, book.place, value)
            self.refuses(InvalidState, value, book.place, state=value)
        for state in TEA_STATES:
            for value in tuples_to_lists(state) + integers_to_bools(state) + parts_to_any(state):
                self.refuses(InvalidState, value, book.place, value)

    def test_no_indices(self):
        book = Book(tea())
        values = [value for value in any_values() if type(value) is not int or not 0 <= value < 5]
        for value in values + [5, -1, True, False, "0", 10 ** 399, (0,), [0]]:
            self.refuses(InvalidIndex, value, book.standing, value)
            self.refuses(InvalidIndex, value, book.way, value)
            self.refuses(InvalidIndex, value, book.after, value, "p2")
            self.refuses(InvalidIndex, value, book.after, index=value, side=None)

    def test_not_due_and_refused(self):
        book = Book(tea())
        for side in any_values() + ["p2", "q2", "p3", ["q1"], ("q1",)]:
            if side != "q1":
                self.refuses(NotDue, side, book.after, 3, side)
        self.refuses(Refused, "q1", book.after, 0, "q1")
        self.refuses(NotDue, "p1", book.after, index=0, side="p1")

    def test_lists_are_new(self):
        book = Book(tea())
        self.new_lists(book.states)
        self.new_lists(book.standings)
        self.assertEqual([book.place(TEA_STATES[0]), book.standing(0)[1]], [0, ("q1",)])


class FortyTest(NearCase):
    def make(self, begins):
        return Process(WIDE, "x", [], begins, [], [])

    def test_forty_states_and_more(self):
        two = [["p1", "p2", "p3", "q1"], ["q2", "q3", "r1", "r2"]]
        self.assertEqual(len(Book(self.make(two + [["q2", "s1", "s1", "s2"]])).states()), 40)
        self.assertEqual(len(Book(self.make(two + [["q1", "s1", "s1", "s2"]])).states()), 40)
        self.counts(41, Book, self.make(two + [["s3", "s1", "s1", "s2"]]))
        self.counts(45, Book, self.make(two + [["r3", "s1", "s2", "s3"]]))

    def last_two(self, many):
        """A process whose numbers tell the last two meetings, so that their order makes states."""
        sides = ["p1", "p2", "p3", "q1", "q2", "q3", "r1", "r2", "r3", "s1", "s2", "s3"][:many]
        does = [(side, [("set", "b", "a"), ("set", "a", at % 4)]) for at, side in enumerate(sides)]
        begins = [sides[at:at + 4] for at in range(0, many, 4)]
        return Process(WIDE, "x", [("a", 3), ("b", 3)], begins, does, [])

    def test_values_make_states(self):
        for many in [4, 8, 12]:
            self.assertEqual(len(Model(self.last_two(many)).states()), 41 * many // 4)
            self.counts(41 * many // 4, Book, self.last_two(many))
        process = self.last_two(4)
        process = Process(WIDE, "x", process.numbers, process.begins, process.does, [("p1", ("is", ("due", "q1"), 0))])
        self.assertEqual(Book(process).states(), Model(process).states())


class RandomTest(NearCase):
    def processes(self, seed, many):
        rng = random.Random(seed)
        for _ in range(many):
            yield makers.make_process(rng, makers.make_ports(rng, 4))

    def test_states(self):
        great = 0
        for process in self.processes(71, 250):
            states = Model(process).states()
            if len(states) > 40:
                great += 1
                self.counts(len(states), Book, process)
                continue
            book = Book(process)
            self.same(book.states(), states)
            self.same([book.place(state) for state in states], list(range(len(states))))
            told = [standing(process, state) for state in states]
            self.same([book.standing(index) for index in range(len(states))], told)
            self.same(book.standings(), sorted(set(told)))
            self.check_after(book, process)
        self.assertGreater(great, 0)

    def check_after(self, book, process):
        for index, state in enumerate(book.states()):
            for side in sorted(set(state[1])):
                if side in book.standing(index)[1]:
                    self.refuses(Refused, side, book.after, index, side)
                    continue
                after = step(process, state, side)
                self.same(book.after(index, side), book.place(after) if after[1] else None)

    def test_ways(self):
        for process in self.processes(72, 150):
            try:
                book, other = Book(process), Book(makers.Process(process.ports, *self.parts(process)))
            except TooMany:
                continue
            for index, state in enumerate(book.states()):
                way = book.way(index)
                self.same([type(way), len(way), type(way[0]), type(way[1])], [tuple, 2, int, tuple])
                reached = begin_state(process, way[0])
                for side in way[1]:
                    reached = step(process, reached, side)
                self.same(reached, state)
                self.same([book.way(index=index), other.way(index)], [way, way])

    def parts(self, process):
        """What an equal process is made of, with lists."""
        return process.name, list(process.numbers), list(process.begins), list(process.does), list(process.refuses)


if __name__ == "__main__":
    unittest.main()
