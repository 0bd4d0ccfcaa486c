"""[181] keeping, [182] least ranks, [183] one process more."""

import random
import unittest

from nearhelp.books import Book
from nearhelp.errors import (
    InvalidProcess, InvalidProcesses, InvalidRanks, NearError, NoNet, NotNumber, Struck, TooMany,
)
from nearhelp.joins import struck
from nearhelp.libraries import Library, read_library
from nearhelp.ports import Ports
from nearhelp.processes import Process
from nearhelp.ranks import farthest, ranks
from nearhelp.typed import added, keeps, least_ranks, why_not
from nearhelp.verdicts import verdict
from tests import judges, judges_waits, makers
from tests.helpers import any_values
from tests.judged import JudgedCase
from tests.test_exchanges import LINE
from tests.test_joins import LONE, NOBODY, PLAIN
from tests.test_libraries import FIFTEEN, OTHERS, SMALL, WIDE, make, some
from tests.test_ranks import ROW
from tests.test_stills import BOTH, EITHER
from tests.test_verdicts import ORDER

DUE = ("above", ("due", "q1"), 0)
ONE = make(SMALL, "one", [["p1", "q1"]], [("p1", DUE)])
TWO = make(SMALL, "two", [["q1", "p2"]], [("q1", ("above", ("due", "p2"), 0))])
THREE = make(SMALL, "three", [["p2", "q2"]], [("p2", ("above", ("due", "q2"), 0))])
RING = make(SMALL, "ring", [["q2", "p1"]], [("q2", ("above", ("due", "p1"), 0))])
CLOSED = make(SMALL, "closed", [["p1"]], [("p1", ("is", 0, 0))])
CALM = make(SMALL, "calm", [["p1"], ["q2"], ["p1", "q2"]])
SIDES = ["p1", "p2", "q1", "q2"]
GREAT = make(WIDE, "great", [FIFTEEN, OTHERS, ["s3", "s1", "s1", "s2"]])


def told(*given):
    return list(zip(SIDES, given))


def processes_of(library):
    return [library.book(name).process for name in library.names()]


class KeepingTest(JudgedCase):
    def checks(self, process, given):
        """What is told of a process and ranks is as the point has it; return whether it keeps them."""
        before = repr(given)
        wanted = [row for row in Book(process).standings() if not judges_waits.keeps(process.ports, row, given)]
        found = why_not(process=process, ranks=given)
        self.same(found, wanted[0] if wanted else None)
        self.assertIs(keeps(process=process, ranks=given), not wanted)
        self.same(why_not(process, tuple(given)), found)
        self.assertEqual(repr(given), before)
        return not wanted

    def test_words(self):
        # ONE refuses p1 and is open at q1: q2 must be lesser than p1.
        for given, kept in [((1, 0, 0, 0), True), ((0, 0, 0, 0), False), ((1, 0, 3, 1), False), ((3, 3, 3, 2), True), ((3, 0, 0, 3), False)]:
            self.assertIs(self.checks(ONE, told(*given)), kept)
        self.same(why_not(ONE, told(0, 0, 0, 0)), (("p1", "q1"), ("p1",)))
        self.assertIs(self.checks(CALM, told(3, 3, 3, 3)), True)

    def test_a_process_that_keeps_none(self):
        for given in judges_waits.all_ranks(SMALL):
            self.assertIs(self.checks(CLOSED, given), False)

    def test_any_open_end_and_all_refused_sides(self):
        # Open at q1 and at q2, refused at p1 and at p2.
        refuses = [("p1", ("is", 0, 0)), ("p2", ("is", 0, 0))]
        process = make(SMALL, "x", [["p1", "p2", "q1", "q2"]], refuses)
        for given, kept in [((1, 1, 0, 3), False), ((2, 2, 0, 0), False), ((2, 2, 1, 1), False)]:
            self.assertIs(self.checks(process, told(*given)), kept)
        once = ("both", ("above", ("due", "q1"), 0), ("above", ("due", "q2"), 0))
        process = make(SMALL, "x", [["p1", "p2", "q1", "q2"]], [("p1", once), ("p2", once)])
        for given, kept in [((1, 1, 0, 3), True), ((1, 1, 3, 0), True), ((1, 1, 1, 1), False), ((1, 0, 0, 0), False), ((3, 2, 2, 2), False), ((3, 3, 2, 2), True)]:
            self.assertIs(self.checks(process, told(*given)), kept)

    def test_three_sides(self):
        ports = Ports([("p", 3), ("q", 2)])
        process = make(ports, "x", [["p1", "q1"]], [("q1", ("above", ("due", "p1"), 0))])
        rows = [(side, 0) for side in ports.sides()]
        for p2, p3, q1, kept in [(0, 0, 1, True), (0, 1, 1, False), (1, 0, 1, False), (1, 2, 3, True), (0, 0, 0, False), (2, 4, 4, False)]:
            given = [(side, {"p2": p2, "p3": p3, "q1": q1}.get(side, rank)) for side, rank in rows]
            self.assertIs(self.checks(process, given), kept)

    def test_all_told_ranks_of_small_processes(self):
        rng, found = random.Random(181), []
        for _ in range(12):
            process = makers.make_helper(rng, SMALL, "x")
            for given in judges_waits.all_ranks(SMALL):
                found.append(self.checks(process, given))
        self.assertGreater(min(found.count(True), found.count(False)), 300)

    def test_ranks_that_are_not_told(self):
        wrong = any_values() + [told(1, 0, 0), told(1, 0, 0, 4), told(1, 0, 0, -1), told(1, 0, 0, 10 ** 399), told(0, 0, 0, 0)[::-1]]
        wrong += judges.one_place_changed(told(1, 0, 2, 3)) + [[(side, rank) for side, rank in zip(["p1", "p2", "q1", "q3"], [0] * 4)]]
        great = makers.Process(WIDE, "great", [], [list(row) for row in GREAT.begins], [], [])
        no = 0
        for value in wrong:
            if judges_waits.is_ranks(SMALL, value):
                self.checks(ONE, value)
                continue
            no += 1
            for call in [keeps, why_not]:
                self.refuses(InvalidRanks, value, call, ONE, value)
                self.refuses(InvalidRanks, value, call, process=ONE, ranks=value)
                self.refuses(InvalidRanks, value, call, great, value)
        self.assertGreater(no, 100)

    def test_books_of_forty_states_and_more(self):
        zeros = [(side, 0) for side in WIDE.sides()]
        forty = make(WIDE, "forty", [FIFTEEN, OTHERS, ["q2", "s1", "s1", "s2"]])
        self.assertEqual(len(Book(forty).states()), 40)
        self.assertIs(self.checks(forty, zeros), True)
        # More than 30 standings, and more than 4 ports.
        ports = Ports([(name, 2) for name in "pqrstu"])
        self.assertIs(self.checks(make(ports, "x", [["p1", "u2"]]), [(side, 11) for side in ports.sides()]), True)
        for call in [keeps, why_not]:
            self.counts(41, call, GREAT, zeros)


class LeastTest(JudgedCase):
    def checks(self, ports, processes):
        """The least ranks are kept by all, and no ranks that all keep are lesser for any side."""
        found = least_ranks(ports=ports, processes=processes)
        self.same(least_ranks(ports, tuple(processes)), found)
        standings = [row for process in processes for row in Book(process).standings()]
        kept = []
        for given in judges_waits.all_ranks(ports):
            if all(judges_waits.keeps(ports, row, given) for row in standings):
                kept.append([rank for _, rank in given])
        if not kept:
            self.assertIsNone(found)
            return None
        wanted = [min(row) for row in zip(*kept)]
        self.same(found, list(zip(sorted(ports.sides()), wanted)))
        self.assertTrue(all(keeps(process, found) for process in processes))
        return found

    def test_words(self):
        self.same(self.checks(SMALL, [ONE]), told(1, 0, 0, 0))
        self.same(self.checks(SMALL, [ONE, TWO]), told(1, 0, 2, 0))
        self.same(self.checks(SMALL, [ONE, TWO, THREE]), told(1, 3, 2, 0))
        self.same(self.checks(SMALL, [CALM]), told(0, 0, 0, 0))
        for processes in [[CLOSED], [ONE, CLOSED], [ONE, TWO, THREE, RING]]:
            self.assertIsNone(self.checks(SMALL, processes))

    def test_the_better_one_of_two_open_ends(self):
        once = ("both", ("above", ("due", "q1"), 0), ("above", ("due", "q2"), 0))
        either = make(SMALL, "either", [["p1", "q1", "q2"]], [("p1", once)])
        self.same(self.checks(SMALL, [either]), told(1, 0, 0, 0))
        self.same(self.checks(SMALL, [either, RING]), told(1, 0, 0, 1))
        self.same(self.checks(SMALL, [either, TWO]), told(1, 0, 2, 0))
        # Now q1 is lifted by p1, and q2 by p2: the better end is as bad as the other one.
        third = make(SMALL, "third", [["q2", "p1"]], [("q2", ("above", ("due", "p1"), 0))])
        self.same(self.checks(SMALL, [either, TWO, third]), told(2, 0, 3, 1))

    def test_random_processes(self):
        rng, found = random.Random(182), []
        for ports in [SMALL, Ports([("p", 3)]), Ports([("p", 2)]), Ports([("q", 2), ("p", 3)])]:
            for _ in range(60 if len(ports.sides()) < 5 else 12):
                processes = [makers.make_helper(rng, ports, name) for name in ["x", "y", "z"][:rng.randint(1, 3)]]
                found.append(self.checks(ports, processes))
        self.assertGreater(min(found.count(None), len(found) - found.count(None)), 20)

    def test_more_ports_and_standings_than_a_library_has(self):
        names = "pqrstuvwxyza"
        ports = Ports([(name, 3) for name in names])
        rows = []
        for at in range(6):
            first, second = names[at] + "1", names[at + 1] + "2"
            rows.append(make(ports, "abcdef"[at], [[first, second]], [(first, ("above", ("due", second), 0))]))
        found = dict(least_ranks(ports, rows))
        # Each side is one above the greatest of the other sides of the port of the open end.
        self.assertEqual([found[name + "1"] for name in names[:7]], [6, 5, 4, 3, 2, 1, 0])
        self.assertEqual([rank for side, rank in found.items() if side[1] != "1"], [0] * 24)
        self.assertEqual(len(found), 36)
        wide = [make(WIDE, "one", [FIFTEEN]), make(WIDE, "two", [OTHERS]), make(WIDE, "three", [["s1"], ["s2"]])]
        with self.assertRaises(TooMany):
            Library(WIDE, wide)
        self.same(least_ranks(WIDE, wide), [(side, 0) for side in WIDE.sides()])

    def test_a_row_as_long_as_can_be(self):
        # Each side is held up by one that is just lesser: the greatest rank is the number of the sides less 1.
        rows = processes_of(ROW)
        self.same(least_ranks(ROW.ports, rows), ranks(ROW))
        self.assertEqual(max(rank for _, rank in least_ranks(ROW.ports, rows)), 7)
        last = [make(ROW.ports, "z", [["p1", "s2"]], [("s2", ("above", ("due", "p1"), 0))])]
        self.same(least_ranks(ROW.ports, last), [(side, int(side == "s2")) for side in ROW.ports.sides()])

    def test_what_nets_have(self):
        # Of a library in which all is left and no standing is endless, the least ranks are those of its sides.
        rng, found = random.Random(1821), 0
        while found < 60:
            library = makers.make_running_library(rng)
            if farthest(library) is None or struck(library):
                continue
            found += 1
            self.same(least_ranks(library.ports, processes_of(library)), ranks(library))

    def test_no_standing_is_farther_than_the_greatest_rank_that_all_keep(self):
        rng, found = random.Random(1822), set()
        for _ in range(300):
            library = makers.make_any_library(rng)
            told = least_ranks(library.ports, processes_of(library))
            if told is not None and len(struck(library)) < len(library.standings()):
                self.assertEqual(verdict(library)[0], "number")
                self.assertLessEqual(farthest(library), max(rank for _, rank in told))
                found.add((farthest(library), max(rank for _, rank in told)))
        self.assertLessEqual({(0, 0), (1, 1), (0, 1)}, found)

    def test_errors(self):
        for value in any_values() + [[], [ONE, ONE], some(7), [ONE, None], [make(Ports([("q", 2), ("p", 2)]), "x", [["p1"]])]]:
            self.refuses(InvalidProcesses, value, least_ranks, SMALL, value)
            self.refuses(InvalidProcesses, value, least_ranks, ports=SMALL, processes=value)
        more = make(WIDE, "more", [FIFTEEN, OTHERS, ["r3", "s1", "s2", "s3"]])
        self.counts(41, least_ranks, WIDE, [GREAT, more])
        self.counts(45, least_ranks, WIDE, [make(WIDE, "x", [["p1"]], [("p1", ("is", 0, 0))]), more, GREAT])
        self.refuses_list([GREAT, GREAT])

    def refuses_list(self, processes):
        self.refuses(InvalidProcesses, processes, least_ranks, WIDE, processes)

    def test_new_lists_and_equal_ones(self):
        for processes in [[ONE, TWO], [CALM]]:
            self.new_throughout(lambda: least_ranks(SMALL, processes))
        given = [ONE, TWO]
        self.same(least_ranks(SMALL, given), least_ranks(SMALL, [make(SMALL, "one", [["p1", "q1"]], [("p1", DUE)]), TWO]))
        self.assertEqual(len(given), 2)


class AddedTest(JudgedCase):
    def checks(self, library, process):
        """What a further process does is as the ranks of both libraries tell."""
        before = library.text()
        wider = Library(library.ports, processes_of(library) + [process])
        old, new = ranks(library), ranks(wider)
        found = added(library=library, process=process)
        self.assertEqual(library.text(), before)
        wanted = ("kept", old)
        for (side, rank), (_, other) in zip(old, new):
            if rank != other:
                wanted = ("lifted", side, rank, other)
                self.assertTrue(other is None or other > rank)
                break
        self.same(found, wanted)
        self.assertIs(keeps(process, old), found[0] == "kept")
        return found

    def test_words(self):
        library = Library(SMALL, [ONE, TWO, make(SMALL, "plain", [["p1"], ["q2"]])])
        self.same(self.checks(library, THREE), ("lifted", "p2", 0, 3))
        self.same(self.checks(library, RING), ("lifted", "p1", 1, 2))
        once = ("both", ("above", ("due", "q1"), 0), ("above", ("due", "p2"), 0))
        self.same(self.checks(library, make(SMALL, "kind", [["p1", "q1", "p2"]], [("p1", once)])), ("kept", told(1, 0, 2, 0)))
        self.same(self.checks(library, CALM), ("kept", told(1, 0, 2, 0)))
        self.same(self.checks(library, make(SMALL, "four", [["q1", "q2", "q2"]], [("q1", ("above", ("due", "q2"), 1))])), ("lifted", "q1", 2, None))
        for kind in [THREE, CALM]:
            self.new_throughout(lambda: added(library, kind))

    def test_random_libraries(self):
        rng, found = random.Random(183), []
        while len(found) < 120:
            library = makers.make_running_library(rng)
            if farthest(library) is None or struck(library) or len(library.names()) == 6:
                continue
            process = makers.make_helper(rng, library.ports, "more")
            if rng.random() < 0.6:
                side, other = rng.sample(library.ports.sides(), 2)
                process = make(library.ports, "more", [[side, other]], [(side, ("above", ("due", other), 0))])
            try:
                wider = Library(library.ports, processes_of(library) + [process])
            except NearError as error:
                self.counts(error.count, added, library, process)
                continue
            if struck(wider):
                self.refuses(Struck, struck(wider)[0], self.struck_call, library, process, struck(wider)[0])
                continue
            found.append(self.checks(library, process))
        self.assertGreater(len([row for row in found if row[0] == "kept"]), 10)
        self.assertGreater(len([row for row in found if row[0] == "lifted" and row[3] is None]), 10)
        self.assertGreater(len([row for row in found if row[0] == "lifted" and row[3] is not None]), 10)

    def struck_call(self, library, process, standing):
        """Add a process, and raise an equal error with this very standing, as errors keep new ones."""
        with self.assertRaises(Struck) as caught:
            added(library, process)
        self.same(caught.exception.standing, standing)
        raise Struck(standing)

    def test_processes_that_are_none(self):
        library = Library(SMALL, [ONE, TWO])
        other = Ports([("q", 2), ("p", 2)])
        wrong = any_values() + [ONE, TWO, make(SMALL, "one", [["p1"]]), make(other, "more", [["p1"]]), [CALM], (CALM,)]
        six = Library(SMALL, some(6))
        for value in wrong + [make(Ports([("p", 2), ("q", 3)]), "more", [["p1"]])]:
            self.refuses(InvalidProcess, value, added, library, value)
            self.refuses(InvalidProcess, value, added, library=library, process=value)
        for value in any_values() + some(6):
            self.refuses(InvalidProcess, value, added, six, value)
        equal = Process(Ports([("p", 2), ("q", 2)]), "more", [], [["p1"], ["q2"]], [], [])
        self.assertEqual(added(Library(SMALL, [ONE, TWO, make(SMALL, "plain", [["p1"], ["q2"]])]), equal)[0], "kept")

    def test_too_many(self):
        six = Library(SMALL, some(6))
        # A seventh one comes before all that the library is, and before its own book.
        self.counts(7, added, six, CALM)
        self.counts(7, added, Library(WIDE, some(6, WIDE)), GREAT)
        self.counts(41, added, Library(WIDE, some(5, WIDE)), GREAT)
        wide = Library(WIDE, [make(WIDE, "one", [FIFTEEN]), make(WIDE, "two", [OTHERS])])
        self.assertEqual(len(wide.standings()), 30)
        self.counts(31, added, wide, make(WIDE, "three", [["s1"]]))
        # Thirty standings are not too many.
        with self.assertRaises(Struck):
            added(wide, make(WIDE, "three", [["p1"], OTHERS]))

    def no_net(self, library, process):
        with self.assertRaises(NearError) as caught:
            added(library, process)
        self.assertIs(type(caught.exception), NoNet)

    def test_libraries_of_other_answers(self):
        more = make(LONE.ports, "more", [["p2"], ["p1"]])
        self.no_net(LONE, more)
        self.no_net(Library(SMALL, [ONE]), TWO)
        for library, word in [(BOTH, "ever"), (EITHER, "logarithm")]:
            self.assertEqual(verdict(library)[0], word)
            with self.assertRaises(NearError) as caught:
                added(library, make(library.ports, "more", [["p1"]]))
            self.same([type(caught.exception), caught.exception.word], [NotNumber, word])
        # A library with a standing that is struck, and another answer: that comes first.
        text = EITHER.text().replace("port p 2", "port p 2\nport q 2") + "\nprocess z\n begin q1"
        library = read_library(text)
        self.assertEqual(struck(library), [(("q1",), ())])
        with self.assertRaises(NotNumber):
            added(library, make(library.ports, "more", [["p1"]]))

    def test_standings_that_are_struck(self):
        standing = struck(NOBODY)[0]
        for process in [make(NOBODY.ports, "more", [["p1"]]), make(NOBODY.ports, "more", [["q2"]]), make(NOBODY.ports, "more", [["q1"]])]:
            with self.assertRaises(NearError) as caught:
                added(NOBODY, process)
            self.same([type(caught.exception), caught.exception.standing], [Struck, standing])
        # What is struck in the library, by order, comes before what is struck with the process.
        library = read_library("port p 2\nport q 2\nprocess y\n begin p1\n begin p2")
        with self.assertRaises(Struck) as caught:
            added(library, make(library.ports, "more", [["q1"], ["p1", "q1"]]))
        self.same(caught.exception.standing, (("p1", "q1"), ()))
        both = make(library.ports, "more", [["q1"], ["q2"], ["p1", "q1"]], [("p1", DUE)])
        self.same(self.checks(library, both), ("lifted", "p1", 0, 1))

    def test_the_library_that_is_wider_only_in_what_is_struck(self):
        for library in [PLAIN, ORDER, LINE]:
            self.assertEqual(struck(library), [])
            calm = make(library.ports, "more", [[side] for side in library.ports.sides()[:3]])
            self.same(self.checks(library, calm), ("kept", ranks(library)))


if __name__ == "__main__":
    unittest.main()
