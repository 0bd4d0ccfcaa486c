"""[201] waits, [202] bounds."""

import random
import unittest

from nearhelp.errors import InvalidName, NearError, NotDue, NotNumber
from nearhelp.joins import left
from nearhelp.libraries import Library, read_library
from nearhelp.portwaits import wait_bound, waits
from nearhelp.processes import Process
from nearhelp.ranks import far
from nearhelp.stills import ever
from tests import makers
from tests.helpers import any_values
from tests.judged import JudgedCase
from tests.test_exchanges import CHAIN, LINE, WIDE
from tests.test_joins import FULL, LONE, MORE, NOBODY, THIRTY
from tests.test_libraries import SMALL, make
from tests.test_ranks import ROW
from tests.test_statements import All, StatementsCase, wait_bounds
from tests.test_stills import BOTH, CLOSED, EITHER
from tests.test_verdicts import ORDER, TWO

X = make(SMALL, "x", [["p1", "q2"]], [("p1", ("above", ("due", "q2"), 0))])
# One process that stands still, one that only waits long, one that nobody meets, and one that waits for none.
WORDS = read_library("""port p 2
port q 2
port r 2
port s 2
process u
 begin p1 p2
 refuse p1 if due p2 above 0
process v
 begin p2
 begin r1
process w
 begin s1
 begin p1 s1
process z
 begin r2 r2""")


class WaitsCase(JudgedCase):
    def checks(self, library):
        """The waits are as ever, far and the states of the books tell; return the words."""
        text = library.text()
        kept, still = left(library), [standing for standing, _ in ever(library)[0]]
        bounds, wanted = wait_bounds(library, 12), []
        for name in library.names():
            states = library.book(name).states()
            for side in library.ports.sides():
                rows = [library.book(name).standing(at) for at, state in enumerate(states) if side in state[1]]
                if not rows:
                    self.refuses(NotDue, side, wait_bound, library, name, side)
                    continue
                rows = [row for row in rows if row in kept]
                distances = [far(library, row) for row in rows]
                if not rows:
                    word = "none"
                elif any(row in still for row in rows):
                    word = "ever"
                else:
                    word = "endless" if None in distances else "number"
                wanted.append((name, side, word))
                if word == "number":
                    found = wait_bound(library=library, name=name, side=side)
                    self.same(found, library.most * bounds[max(distances)])
                else:
                    self.not_number(library, name, side, word)
        self.same(waits(library=library), wanted)
        self.assertEqual(library.text(), text)
        return [row[2] for row in wanted]

    def not_number(self, library, name, side, word):
        with self.assertRaises(NearError) as caught:
            wait_bound(library, name, side)
        self.same([type(caught.exception), caught.exception.word], [NotNumber, word])


class WaitsTest(WaitsCase):
    def test_each_word(self):
        self.same(waits(WORDS), [
            ("u", "p1", "ever"), ("u", "p2", "ever"), ("v", "p2", "endless"), ("v", "r1", "number"), ("w", "p1", "number"),
            ("w", "s1", "none"), ("z", "r2", "number"),
        ])
        self.assertEqual(set(self.checks(WORDS)), {"ever", "endless", "number", "none"})

    def test_several_standings_with_a_side(self):
        # p1 is due in (p1), which acts at once, and in (p1, q2), which is one far.
        y = make(SMALL, "y", [["q1"], ["p2"]])
        library = Library(SMALL, [X, y])
        self.same(waits(library)[:2], [("x", "p1", "number"), ("x", "q2", "number")])
        self.same([wait_bound(library, "x", "p1"), wait_bound(library, "y", "p2"), wait_bound(library, "y", "q1")], [4, 6, 4])
        # One of them stands still, one is endless, or one is not left: the worst one counts.
        self.same(waits(BOTH), [("aid", "p1", "ever"), ("aid", "p2", "ever")])
        self.same(waits(EITHER), [("aid", "p1", "endless"), ("aid", "p2", "endless")])
        self.same(waits(NOBODY), [("x", "p1", "number"), ("x", "q1", "none"), ("y", "p2", "number")])

    def test_processes_in_order_and_sides_that_nobody_has(self):
        y = make(SMALL, "a", [["q1"], ["p2"]])
        self.same(waits(Library(SMALL, [X, y])), [("x", "p1", "number"), ("x", "q2", "number"), ("a", "p2", "number"), ("a", "q1", "number")])
        self.same(waits(Library(SMALL, [y, X]))[0], ("a", "p2", "number"))
        self.same(waits(LONE), [("z", "p1", "none")])

    def test_the_states_of_the_book_count_and_not_the_beginnings(self):
        # At the beginning p1 is open; it is refused once q1 has been held.
        turn = Process(SMALL, "x", [("a", 1)], [["p1", "q1"]], [("q1", [("set", "a", 1)])], [("p1", ("is", "a", 1))])
        library = Library(SMALL, [turn, make(SMALL, "y", [["q2"], ["p2"]])])
        self.same(waits(library), [("x", "p1", "ever"), ("x", "q1", "number"), ("y", "p2", "ever"), ("y", "q2", "number")])
        self.checks(library)

    def test_many_libraries(self):
        for library in [BOTH, EITHER, CLOSED, TWO, ORDER, ROW, LINE, CHAIN, WIDE, LONE, NOBODY, MORE, FULL, THIRTY]:
            self.checks(library)

    def test_random_libraries(self):
        rng, found = random.Random(201), []
        for _ in range(120):
            found += self.checks(makers.make_any_library(rng))
            found += self.checks(makers.make_part_plain_library(rng))
        for word in ["none", "ever", "endless", "number"]:
            self.assertGreater(found.count(word), 50)

    def test_equal_libraries_and_new_lists(self):
        for library in [WORDS, ROW]:
            self.same(waits(read_library(library.text())), waits(library))
            self.new_lists(lambda: waits(library))


class WaitBoundTest(WaitsCase):
    def test_errors_in_their_order(self):
        for value in any_values() + ["xx", "X", ("x",)]:
            self.refuses(InvalidName, value, wait_bound, WORDS, value, "p1")
            self.refuses(InvalidName, value, wait_bound, library=WORDS, name=value, side=None)
        for value in any_values() + ["p2", "r1", "q1", "p3", ("p1",)]:
            if value != "p1":
                self.refuses(NotDue, value, wait_bound, WORDS, "w", value)
                self.refuses(NotDue, value, wait_bound, library=WORDS, name="w", side=value)
        for name, side, word in [("u", "p1", "ever"), ("v", "p2", "endless"), ("w", "s1", "none")]:
            self.not_number(WORDS, name, side, word)


class NetsTest(StatementsCase):
    def test_no_meeting_waits_longer(self):
        rng, found = random.Random(202), 0
        for library in self.libraries(rng, ["number", "logarithm", "ever"], 60):
            told = {(name, side): word for name, side, word in waits(library)}
            for net in self.nets(rng, library, 3, 9):
                bounds = {}
                for hand, (name, index) in enumerate(net.hands()):
                    for side in net.standing(hand)[0]:
                        if told[name, side] == "number":
                            bounds[hand, side] = wait_bound(library, name, side)
                for model in self.ends_of(net):
                    for (hand, side), bound in bounds.items():
                        for meeting in net.due(hand):
                            if (hand, side) in net.ends(meeting):
                                found += 1
                                self.assertIsNotNone(model.held[meeting])
                                self.assertLessEqual(model.held[meeting], bound)
        self.assertGreater(found, 300)

    def ends_of(self, net):
        """The last moments of all runs of a net, one for each moment and number of rounds."""
        return [model for model in All(net).moments.values() if not model.all_rounds()]


if __name__ == "__main__":
    unittest.main()
