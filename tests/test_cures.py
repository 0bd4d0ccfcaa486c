"""[211] cures."""

import random
import unittest

from nearhelp.books import Book
from nearhelp.cures import cures, without
from nearhelp.errors import InvalidSide, NearError
from nearhelp.libraries import Library
from nearhelp.ports import Ports
from nearhelp.processes import Process
from nearhelp.verdicts import verdict
from tests import makers
from tests.helpers import any_values
from tests.judged import JudgedCase
from tests.test_joins import FULL, LONE, MORE, NOBODY
from tests.test_libraries import FIFTEEN, OTHERS, SMALL, WIDE, make, some
from tests.test_ranks import ROW
from tests.test_stills import BOTH, CLOSED, EITHER
from tests.test_typed import processes_of
from tests.test_verdicts import ORDER, TWO

DUE = ("above", ("due", "p2"), 0)
NEVER = ("is", 0, 1)
ALWAYS = ("is", 0, 0)
ONE = Ports([("p", 2)])
AID = make(ONE, "aid", [["p1", "p2"]], [("p1", DUE)])
CALM = make(ONE, "calm", [["p1"]])


class WithoutTest(JudgedCase):
    def test_tuples_with_the_side_are_left_out(self):
        numbers, does = [("cup", 2)], [("p1", [("if", ("is", "cup", 1), [("set", "cup", 0)], []), ("repeat", 2, [("add", "cup", 1)])])]
        refuses = [("p1", DUE), ("q2", ("is", "cup", 1)), ("p1", NEVER), ("p2", ALWAYS), ("q2", DUE)]
        process = Process(SMALL, "tea", numbers, [["p1", "q2"], ["p2"]], does, refuses)
        text = process.text()
        for side in SMALL.sides():
            found = without(process=process, side=side)
            kept = [row for row in refuses if row[0] != side]
            self.assertTrue(found == Process(SMALL, "tea", numbers, [["p1", "q2"], ["p2"]], does, kept))
            self.assertEqual(found.refuses, tuple(kept))
            self.assertTrue(found.ports == SMALL)
        self.assertTrue(without(process, "q1") == process)
        self.assertEqual([len(without(process, side).refuses) for side in SMALL.sides()], [3, 4, 5, 3])
        self.assertEqual(process.text(), text)

    def test_sides_that_are_none(self):
        for value in any_values() + ["q1", "p3", "p", ("p1",)]:
            if value != "p1":
                self.refuses(InvalidSide, value, without, AID, value)
                self.refuses(InvalidSide, value, without, process=AID, side=value)
        self.assertTrue(without(AID, "p2") == AID)


class CuresTest(JudgedCase):
    def checks(self, library):
        """The cures are as verdicts of libraries made without refusals tell."""
        text, wanted = library.text(), []
        processes = processes_of(library)
        for at, process in enumerate(processes):
            for side in library.ports.sides():
                if side not in [row[0] for row in process.refuses]:
                    continue
                rest = [row for row in process.refuses if row[0] != side]
                changed = Process(process.ports, process.name, process.numbers, process.begins, process.does, rest)
                try:
                    if verdict(Library(library.ports, processes[:at] + [changed] + processes[at + 1:]))[0] == "number":
                        wanted.append((process.name, side))
                except NearError as error:
                    self.assertIn(type(error).__name__, ["NoNet", "TooMany"])
        self.same(cures(library=library), wanted)
        self.assertEqual(library.text(), text)
        return wanted

    def test_words(self):
        self.same(self.checks(Library(ONE, [CALM, AID])), [("aid", "p1")])
        self.same(self.checks(Library(ONE, [CALM])), [])
        for library, wanted in [(BOTH, [("aid", "p1")]), (EITHER, [("aid", "p1")]), (LONE, []), (CLOSED, [])]:
            self.same(self.checks(library), wanted)
        for library in [TWO, ORDER, ROW, NOBODY, MORE, FULL]:
            self.checks(library)

    def test_a_library_whose_answer_is_a_number_already(self):
        self.assertEqual(verdict(ORDER)[0], "number")
        self.same(self.checks(ORDER), [("x", "p1")])

    def test_a_side_in_several_tuples_and_sides_that_are_never_due(self):
        process = make(SMALL, "aid", [["p1", "p2"]], [("p1", NEVER), ("p1", DUE), ("q1", ALWAYS), ("q2", NEVER), ("p1", DUE)])
        library = Library(SMALL, [process])
        self.assertEqual(verdict(library)[0], "ever")
        self.same(self.checks(library), [("aid", "p1")])
        # It is enough for a cure that the answer is a number behind it, also by refusals that never come.
        calm = make(SMALL, "calm", [["p1"], ["p2"]], [("q2", ALWAYS), ("p2", NEVER), ("q1", ALWAYS)])
        self.same(self.checks(Library(SMALL, [calm])), [("calm", "p2"), ("calm", "q1"), ("calm", "q2")])

    def test_libraries_that_cannot_be_made(self):
        # Without the refusal, the numbers tell the last meetings of more ways than a book has states.
        does = [(side, [("set", "b", "a"), ("set", "a", at)]) for at, side in enumerate(["p1", "p2", "p3", "q1"])]
        process = Process(WIDE, "x", [("a", 3), ("b", 3)], [["p1", "p2", "p3", "q1"]], does, [("p1", ("above", ("due", "q1"), 0)), ("q1", NEVER)])
        library = Library(WIDE, [process])
        self.assertLess(len(Book(process).states()), 41)
        self.assertEqual(len(Book(without(process, "q1")).states()), len(Book(process).states()))
        with self.assertRaises(NearError) as caught:
            Book(without(process, "p1"))
        self.assertEqual(caught.exception.count, 41)
        self.checks(library)
        # Without the refusal there are 31 standings, which are too many; with one that never comes, there are 27.
        wide = make(WIDE, "one", [FIFTEEN], [("p1", ("above", ("due", "p2"), 0)), ("q1", NEVER)])
        more = Library(WIDE, [wide, make(WIDE, "two", [OTHERS]), make(WIDE, "z", [["s1"]])])
        self.assertEqual(len(more.standings()), 27)
        self.counts(31, Library, WIDE, [without(wide, "p1"), make(WIDE, "two", [OTHERS]), make(WIDE, "z", [["s1"]])])
        self.assertNotIn(("one", "p1"), self.checks(more))

    def test_no_net_behind_a_cure(self):
        # Nobody has p2 open or refused: nothing is left, whatever is refused.
        library = Library(ONE, [make(ONE, "x", [["p1"]], [("p1", ALWAYS)])])
        self.same(self.checks(library), [])
        self.same(cures(LONE), [])

    def test_six_processes(self):
        six = some(5, SMALL) + [make(SMALL, "aid", [["p1", "p2"]], [("p1", DUE), ("p2", NEVER)])]
        self.same(self.checks(Library(SMALL, six)), [("aid", "p1")])

    def test_random_libraries(self):
        rng, found = random.Random(211), []
        for _ in range(100):
            found.append(len(self.checks(makers.make_any_library(rng))))
        self.assertGreater(min(found.count(0), len(found) - found.count(0)), 20)

    def test_new_lists(self):
        self.new_lists(lambda: cures(BOTH))


if __name__ == "__main__":
    unittest.main()
