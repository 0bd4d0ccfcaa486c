"""[81] libraries."""

import random
import unittest

from nearhelp.books import Book
from nearhelp.errors import InvalidName, InvalidProcesses, InvalidStanding, NearError
from nearhelp.libraries import Library
from nearhelp.ports import Ports
from nearhelp.processes import Process
from tests import makers
from tests.helpers import NearCase, any_values, parts_to_any, tuples_to_lists

SMALL = Ports([("p", 2), ("q", 2)])
WIDE = Ports([("p", 3), ("q", 3), ("r", 3), ("s", 3)])
FIFTEEN = ["p1", "p2", "p3", "q1"]
OTHERS = ["q2", "q3", "r1", "r2"]


def make(ports, name, begins, refuses=()):
    return Process(ports, name, [], begins, [], refuses)


def some(many, ports=SMALL):
    return [make(ports, name, [["p1"]]) for name in "gfedcba"[:many]]


AID = make(SMALL, "aid", [["p1", "p2", "p2"]], [("p1", ("above", ("due", "p2"), 1))])
PLAIN = make(SMALL, "plain", [["p1"], ["q2"]])


class ProcessesTest(NearCase):
    def wrong(self, processes, ports=SMALL):
        self.refuses(InvalidProcesses, processes, Library, ports, processes)
        self.refuses(InvalidProcesses, processes, Library, ports=ports, processes=processes)

    def test_one_to_six(self):
        for many in [1, 2, 6]:
            self.assertEqual(Library(SMALL, some(many)).names(), list("gfedcba"[:many]))
            self.assertEqual(Library(SMALL, tuple(some(many))).names(), list("gfedcba"[:many]))
        self.wrong([])
        self.wrong(())
        self.wrong(some(7))
        self.wrong(some(1) * 2000)

    def test_different_names_and_equal_ports(self):
        self.wrong([AID, PLAIN, make(SMALL, "aid", [["q1"]])])
        self.wrong([AID, AID])
        for kinds in [[("q", 2), ("p", 2)], [("p", 2)], [("p", 2), ("q", 3)], [("p", 2), ("q", 2), ("r", 2)]]:
            other = make(Ports(kinds), "other", [["p1"]])
            self.wrong([other])
            self.wrong([AID, other])
            self.wrong([AID], Ports(kinds))
        self.assertEqual(Library(Ports([("p", 2), ("q", 2)]), [AID]).names(), ["aid"])

    def test_any_value(self):
        for value in any_values():
            self.wrong(value)
            self.wrong([AID, value])
            self.wrong([[AID, value]])
        self.wrong(AID)
        self.wrong({"aid": AID})


class TooManyTest(NearCase):
    def test_ports(self):
        for many in [4, 5, 12]:
            ports = Ports([(name, 2) for name in "pqrstuvwxyza"[:many]])
            processes = some(1, ports)
            if many == 4:
                self.assertEqual(Library(ports, processes).names(), ["g"])
            else:
                self.counts(many, Library, ports, processes)

    def test_books(self):
        # 41 and 45 states
        first = make(WIDE, "first", [FIFTEEN, OTHERS, ["s3", "s1", "s1", "s2"]])
        second = make(WIDE, "second", [FIFTEEN, OTHERS, ["r3", "s1", "s2", "s3"]])
        self.counts(41, Library, WIDE, [first, second])
        self.counts(45, Library, WIDE, [second, first])
        self.counts(45, Library, WIDE, [make(WIDE, "calm", [["p1"]]), second, first])

    def test_standings(self):
        one, two = make(WIDE, "one", [FIFTEEN]), make(WIDE, "two", [OTHERS])
        self.assertEqual(len(Library(WIDE, [one, two]).standings()), 30)
        self.assertEqual(len(Library(WIDE, [one, two, make(WIDE, "three", [OTHERS])]).standings()), 30)
        self.counts(31, Library, WIDE, [one, two, make(WIDE, "three", [["s1"]])])
        self.counts(31, Library, WIDE, [make(WIDE, "three", [["s1"], FIFTEEN, OTHERS])])
        refusing = make(WIDE, "three", [["p1"]], [("p1", ("is", 0, 0))])
        self.counts(31, Library, WIDE, [one, two, refusing])

    def test_errors_in_their_order(self):
        ports = Ports([(name, 3) for name in "pqrst"])
        great = make(ports, "great", [FIFTEEN, OTHERS, ["r3", "s1", "s2", "s3"]])
        processes = [great, great]
        self.refuses(InvalidProcesses, processes, Library, ports, processes)
        self.counts(5, Library, ports, [great])
        # More states than standings: the book is too great before the library is.
        full = make(WIDE, "full", [FIFTEEN, OTHERS, ["s1", "s2"]])
        great = make(WIDE, "great", [FIFTEEN, OTHERS, ["r3", "s1", "s2", "s3"]])
        self.counts(33, Library, WIDE, [full])
        self.counts(45, Library, WIDE, [full, great])


class LibraryTest(NearCase):
    def test_attributes_and_books(self):
        library = Library(SMALL, [PLAIN, AID])
        self.assertTrue(library.ports == SMALL)
        self.same([library.most, library.names()], [3, ["plain", "aid"]])
        for name, process in [("plain", PLAIN), ("aid", AID)]:
            self.assertIs(type(library.book(name)), Book)
            self.assertTrue(library.book(name).process == process)
            self.assertEqual(library.book(name=name).states(), Book(process).states())
        for many in [1, 2, 3, 4]:
            processes = [make(SMALL, "x", [["p1"], ["q1"] * many]), make(SMALL, "y", [["p2"]])]
            self.assertEqual([Library(SMALL, row).most for row in (processes, processes[::-1])], [many, many])

    def test_no_names(self):
        library = Library(SMALL, [PLAIN, AID])
        for value in any_values() + ["Aid", "aid ", "calm", ("aid",), ["aid"], AID]:
            self.refuses(InvalidName, value, library.book, value)
            self.refuses(InvalidName, value, library.book, name=value)

    def test_standings_and_holders(self):
        twice = Process(SMALL, "x", [("a", 1)], [["q2", "q1"], ["q2"]], [("q1", [("set", "a", 1)])], [])
        library = Library(SMALL, [PLAIN, twice, AID])
        told = [
            (("p1",), ()), (("p1", "p2"), ()), (("p1", "p2", "p2"), ("p1",)), (("p2",), ()),
            (("q1",), ()), (("q1", "q2"), ()), (("q2",), ()),
        ]
        self.same(library.standings(), told)
        self.same(library.holders((("q2",), ())), [("plain", 1), ("x", 2), ("x", 3)])
        self.same(library.holders(standing=(("p1",), ())), [("plain", 0), ("aid", 0)])
        self.same(library.holders(told[2]), [("aid", 2)])
        self.same(Library(SMALL, [AID, twice, PLAIN]).holders((("p1",), ())), [("aid", 0), ("plain", 0)])

    def test_no_standings(self):
        library = Library(SMALL, [PLAIN, AID])
        others = [((), ()), (("p2", "p2"), ()), (("p1",), ("p1",)), (("p1", "p2", "p2"), ()), (["p1"], ()), (("p1",), [])]
        others += [[("p1",), ()], ("p1", ()), (("p1",),), (("p1",), (), ()), (("p1",), None), (("q1",), ()), (("r1",), ())]
        for value in others + any_values():
            self.refuses(InvalidStanding, value, library.holders, value)
            self.refuses(InvalidStanding, value, library.holders, standing=value)
        for standing in library.standings():
            for value in tuples_to_lists(standing) + parts_to_any(standing):
                self.refuses(InvalidStanding, value, library.holders, value)

    def test_lists_are_new_and_none_is_kept(self):
        processes = [PLAIN, AID]
        library = Library(SMALL, processes)
        self.assertEqual([len(processes), processes[0] == PLAIN, processes[1] == AID], [2, True, True])
        text = library.text()
        processes.append(make(SMALL, "more", [["q1"]]))
        for give in [library.names, library.standings, lambda: library.holders((("p1",), ()))]:
            self.new_lists(give)
        self.assertEqual([library.names(), library.text()], [["plain", "aid"], text])
        self.assertTrue(library == Library(SMALL, [PLAIN, AID]))

    def test_equal_by_ports_and_processes(self):
        other = Ports([("q", 2), ("p", 2)])
        made = [
            Library(SMALL, [PLAIN, AID]), Library(SMALL, [AID, PLAIN]), Library(SMALL, [AID]), Library(SMALL, [PLAIN]),
            Library(SMALL, [PLAIN, make(SMALL, "aid", [["p1", "p2", "p2"]])]), Library(other, some(1, other)),
            Library(SMALL, some(1)), Library(SMALL, [make(SMALL, "h", [["p1"]])]),
        ]
        for at, library in enumerate(made):
            self.assertTrue(library == Library(library.ports, [library.book(name).process for name in library.names()]))
            for place, second in enumerate(made):
                self.assertIs(library == second, at == place)
                self.assertIs(library != second, at != place)
        for value in any_values():
            self.assertFalse(made[0] == value)
            self.assertFalse(value == made[0])

    def test_random_ones(self):
        rng, made = random.Random(81), 0
        for _ in range(200):
            ports = makers.make_ports(rng, 4)
            parts = [makers.make_parts(rng, ports) for _ in range(rng.randint(1, 3))]
            processes = [Process(ports, name, *part[1:]) for name, part in zip(["one", "two", "three"], parts)]
            try:
                books = [Book(process) for process in processes]
            except NearError as error:
                self.counts(error.count, Library, ports, processes)
                continue
            rows = [
                (book.standing(index), (book.process.name, index))
                for book in books for index in range(len(book.states()))
            ]
            standings = sorted({row[0] for row in rows})
            if len(standings) > 30:
                self.counts(len(standings), Library, ports, processes)
                continue
            made += 1
            library = Library(ports, processes)
            self.same(library.standings(), standings)
            self.assertEqual(library.most, max(len(begin) for process in processes for begin in process.begins))
            for standing in standings:
                self.same(library.holders(standing), [holder for found, holder in rows if found == standing])
        self.assertGreater(made, 60)


if __name__ == "__main__":
    unittest.main()
