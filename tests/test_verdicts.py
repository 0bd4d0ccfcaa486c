"""[143] verdicts."""

import random
import unittest

from nearhelp.errors import NoNet
from nearhelp.joins import joined, left
from nearhelp.libraries import read_library
from nearhelp.ranks import farthest, ranks
from nearhelp.stills import still, weights
from nearhelp.verdicts import is_verdict, verdict
from tests import judges, makers
from tests.helpers import any_values
from tests.judged import JudgedCase, digits
from tests.test_joins import FULL, HUNDRED, LONE, MORE, NOBODY, PLAIN, THIRTY
from tests.test_ranks import ROW
from tests.test_stills import BOTH, CLOSED, EITHER, LONG, RING, TOLD

A, LAST = (("p1",), ()), (("p2",), ())
PAIR = (("p1", "p2"), ())
SIGNS = [("p1", 0), ("p2", 0), ("q1", 0), ("q2", 0)]
X, Y = "process x\n begin p1 q2\n refuse p1 if due q2 above 0", "process y\n begin p2\n begin q1"
ORDER = read_library("port p 2\nport q 2\n" + X + "\n" + Y)
# Two ports that hold each other up, and a standing that is struck.
TWO = read_library("""port p 2
port q 2
port r 2
process x
 begin p1 q2 q2
 refuse p1 if due q2 above 1
process y
 begin p2 p2 q1
 begin r1
 refuse q1 if due p2 above 1
process z
 begin p1
 begin q2""")


class VerdictCase(JudgedCase):
    def verdict_judged(self, library):
        """The verdict is right, and no other one has another first item; return this one."""
        text = library.text()
        kept = left(library)
        if not kept:
            with self.assertRaises(NoNet) as caught:
                verdict(library)
            self.assertIs(type(caught.exception), NoNet)
            return "none"
        told = verdict(library=library)
        self.assertTrue(judges.is_verdict(library, told, kept))
        self.assertIs(is_verdict(library=library, value=told), True)
        self.assertLess(digits(told[1:]), 301)
        word = "ever" if still(library) is not None else "logarithm" if farthest(library) is None else "number"
        self.assertEqual(told[0], word)
        self.assertEqual(library.text(), text)
        return word

    def judged_verdict(self, library, value, least=20):
        kept = left(library)
        call, judge = lambda other: is_verdict(library, other), lambda other: judges.is_verdict(library, other, kept)
        self.judged(call, judge, value, least)


class VerdictTest(VerdictCase):
    def test_each_answer(self):
        rows = [(BOTH, "ever"), (CLOSED, "ever"), (FULL, "ever"), (HUNDRED, "ever"), (MORE, "ever"), (EITHER, "logarithm"), (TWO, "logarithm")]
        rows += [(ORDER, "number"), (PLAIN, "number"), (ROW, "number"), (NOBODY, "number"), (THIRTY, "number"), (LONE, "none")]
        for library, word in rows:
            self.assertEqual(self.verdict_judged(library), word)

    def test_kinds_of_values(self):
        told = verdict(BOTH)
        self.assertEqual([type(told), len(told), type(told[1])], [tuple, 2, list])
        told = verdict(EITHER)
        self.assertEqual([type(item) for item in told], [str, tuple, tuple])
        self.assertEqual([type(item) for item in told[1] + told[2]], [list, list, list, list, tuple])
        self.assertEqual([type(item) for item in verdict(ORDER)], [str, list, list])

    def test_random_libraries(self):
        rng, words = random.Random(143), []
        for _ in range(250):
            library = makers.make_any_library(rng)
            words.append(self.verdict_judged(library))
        self.assertGreater(min(words.count(word) for word in ["ever", "logarithm", "number", "none"]), 15)

    def test_equal_libraries_and_new_lists(self):
        for library in [BOTH, EITHER, TWO, ORDER, ROW]:
            self.same(verdict(read_library(library.text())), verdict(library))
            self.new_throughout(lambda: verdict(library))


class EverTest(VerdictCase):
    def test_judged(self):
        self.judged_verdict(BOTH, ("ever", [(RING, 1)]))
        self.judged_verdict(CLOSED, verdict(CLOSED))
        self.assertIs(is_verdict(BOTH, ("ever", [(RING, 10 ** 399)])), True)
        for value in [("ever", []), ("ever", [(LONG, 1)]), ("ever", [(RING, 1)], []), ("Ever", [(RING, 1)]), ["ever", [(RING, 1)]], ("ever",)]:
            self.assertIs(is_verdict(BOTH, value), False)
        self.assertIs(is_verdict(EITHER, ("ever", [(RING, 1)])), False)

    def test_verdicts_of_the_other_words(self):
        counts = joined(BOTH)[0]
        zeros = [("p1", 0), ("p2", 0)]
        self.assertIs(is_verdict(BOTH, ("logarithm", TOLD, (counts, [("p1", RING)], RING))), False)
        self.assertIs(is_verdict(BOTH, ("number", zeros, zeros)), False)
        self.assertIs(is_verdict(BOTH, ("number", ranks(BOTH), zeros)), False)


class LogarithmTest(VerdictCase):
    def told(self, counts=((A, 1), (LONG, 1)), rows=(("p1", LONG),), last=LONG, given=TOLD):
        return ("logarithm", given, (list(counts), list(rows), last))

    def test_judged(self):
        self.judged_verdict(EITHER, self.told())
        self.judged_verdict(EITHER, self.told([(A, 2), (LONG, 1), (LAST, 1)], last=LAST))
        self.judged_verdict(EITHER, verdict(EITHER))
        self.judged_verdict(TWO, verdict(TWO))

    def test_other_weights_and_numbers(self):
        great = 10 ** 399
        given = ([("p1", great), ("p2", great)], [("p", 2 * great)])
        self.assertIs(is_verdict(EITHER, self.told([(A, great), (LONG, great)], given=given)), True)
        self.assertIs(is_verdict(EITHER, self.told(given=([("p1", 1), ("p2", 1)], [("p", 3)]))), False)
        self.assertIs(is_verdict(EITHER, self.told(given=([("p1", 1), ("p2", 1)], [("p", 1)]))), False)

    def test_standings_that_stand_in_the_counts(self):
        self.assertIs(is_verdict(EITHER, self.told([(PAIR, 1)], [], PAIR)), False)
        self.assertIs(is_verdict(EITHER, self.told([(PAIR, 1)])), False)
        self.assertIs(is_verdict(EITHER, self.told(last=LAST)), False)
        self.assertIs(is_verdict(EITHER, self.told([(LONG, 1)])), False)
        self.assertIs(is_verdict(EITHER, self.told([])), False)
        self.assertIs(is_verdict(EITHER, self.told([], [], None)), False)

    def test_rows(self):
        self.assertIs(is_verdict(EITHER, self.told(last=A)), False)
        for rows in [[], [("p2", LONG)], [("p1", A)], [("p1", LONG)] * 2, [("p1", LONG), ("p2", LONG)], [["p1", LONG]], [("p3", LONG)]]:
            self.assertIs(is_verdict(EITHER, self.told(rows=rows)), False)
        word, given, (counts, rows, last) = verdict(TWO)
        self.assertEqual([side for side, _ in rows], ["p1", "q1"])
        self.assertIs(is_verdict(TWO, (word, given, (counts, rows[::-1], last))), False)
        for at in [0, 1]:
            self.assertIs(is_verdict(TWO, (word, given, (counts, rows[at:at + 1], last))), False)

    def test_a_row_whose_standing_has_an_open_end_that_nobody_holds_up(self):
        library = read_library(EITHER.text().replace("port p 2", "port p 2\nport q 2") + "\n" + X + "\nprocess y\n begin q1")
        held = (("p1", "q2"), ("p1",))
        counts = sorted([(A, 2), (LONG, 4), (held, 2), ((("q1",), ()), 2)])
        self.assertTrue(judges.is_counts(library, counts))
        given = weights(library)
        self.assertIs(is_verdict(library, ("logarithm", given, (counts, [("p1", LONG)], LONG))), True)
        self.assertIs(is_verdict(library, ("logarithm", given, (counts, [("p1", held)], LONG))), False)
        self.assertIs(is_verdict(library, ("logarithm", given, (counts, [("p1", LONG)], held))), False)

    def test_verdicts_of_the_other_words(self):
        zeros = [("p1", 0), ("p2", 0)]
        for first in [0, 1]:
            for second in [0, 1]:
                self.assertIs(is_verdict(EITHER, ("number", [("p1", first), ("p2", second)], zeros)), False)
        self.assertIs(is_verdict(EITHER, ("ever", joined(EITHER)[0])), False)


class NumberTest(VerdictCase):
    def told(self, *given):
        return ("number", list(zip(["p1", "p2", "q1", "q2"], given)), SIGNS)

    def test_judged(self):
        self.judged_verdict(ORDER, verdict(ORDER))
        self.judged_verdict(ORDER, self.told(3, 2, 2, 0))
        self.judged_verdict(ORDER, ("number", ranks(ORDER), [("p1", 0), ("p2", 0), ("q1", 0), ("q2", 0)]))
        self.judged_verdict(NOBODY, verdict(NOBODY))
        self.judged_verdict(ROW, verdict(ROW), 200)

    def test_ranks(self):
        # The standing that refuses p1 is open at q2: q1 must be lesser than p1.
        for given in [(1, 0, 0, 0), (3, 3, 2, 3), (1, 3, 0, 3), (2, 2, 1, 1)]:
            self.assertIs(is_verdict(ORDER, self.told(*given)), True)
        for given in [(0, 0, 0, 0), (2, 2, 2, 0), (1, 0, 1, 0), (4, 0, 0, 0), (1, 0, 0, 4), (1, 0, 0, -1), (1, 0, -1, 0), (10 ** 399, 0, 0, 0)]:
            self.assertIs(is_verdict(ORDER, self.told(*given)), False)

    def test_least_ranks(self):
        told = verdict(ROW)
        self.assertEqual(told[1], ranks(ROW))
        # These are all there are: from 0 to 7, each once.
        for at, (side, rank) in enumerate(told[1]):
            for other in range(8):
                changed = told[1][:at] + [(side, other)] + told[1][at + 1:]
                self.assertIs(is_verdict(ROW, ("number", changed, told[2])), other == rank)

    def test_signs(self):
        kept = [("p1", 1), ("p2", 0), ("q1", 0), ("q2", 0)]
        for signs in [[("p1", 0), ("p2", 0), ("q1", 3), ("q2", -3)], [("p1", 0), ("p2", 0), ("q1", 0), ("q2", 0)]]:
            self.assertIs(is_verdict(NOBODY, ("number", kept, signs)), True)
        zeros = [("p1", 0), ("p2", 0), ("q1", 0), ("q2", 0)]
        for signs, right in [(zeros, False), ([("p1", 0), ("p2", 0), ("q1", 3), ("q2", -3)], True), ([("p1", 0), ("p2", 0), ("q1", -3), ("q2", 3)], False)]:
            self.assertIs(is_verdict(NOBODY, ("number", zeros, signs)), right)
        for signs in [[("p1", 0), ("p2", 1), ("q1", 3), ("q2", -3)], [("p1", 1), ("p2", -1), ("q1", 3), ("q2", -3)], [("p1", 0), ("p2", 0)]]:
            self.assertIs(is_verdict(NOBODY, ("number", kept, signs)), False)

    def test_a_standing_that_refuses_all_keeps_no_ranks(self):
        library = read_library("port p 2\nprocess x\n begin p1\n begin p2\nprocess y\n begin p1\n refuse p1 if 0 is 0")
        zeros = [("p1", 0), ("p2", 0)]
        for given in [zeros, [("p1", 1), ("p2", 0)]]:
            self.assertIs(is_verdict(library, ("number", given, zeros)), False)

    def test_verdicts_of_the_other_words(self):
        counts = joined(ORDER)[0]
        held = (("p1", "q2"), ("p1",))
        for rows in [[], [("p1", held)]]:
            for last in ORDER.standings():
                self.assertIs(is_verdict(ORDER, ("logarithm", weights(ORDER), (counts, rows, last))), False)
        self.assertIs(is_verdict(ORDER, ("ever", counts)), False)


class NoneTest(VerdictCase):
    def test_no_standing_left(self):
        for library in [LONE, read_library("port p 3\nprocess z\n begin p1 p2")]:
            signs = joined(library)[1]
            zeros = [(side, 0) for side in library.ports.sides()]
            values = [("number", zeros, signs), ("ever", []), ("logarithm", weights(library), ([], [], None)), ("number", zeros, zeros)]
            values += [("logarithm", weights(library), ([], [], library.standings()[0])), ("ever", joined(library)[0])]
            for value in values + any_values():
                self.assertIs(is_verdict(library, value), False)
            with self.assertRaises(NoNet):
                verdict(library)

    def test_any_value(self):
        for library in [BOTH, EITHER, ORDER, LONE]:
            for value in any_values():
                self.assertIs(is_verdict(library, value), False)
                for word in ["ever", "number", "logarithm"]:
                    self.assertIs(is_verdict(library, (word, value)), False)
                    self.assertIs(is_verdict(library, (word, value, value)), False)
                    self.assertIs(is_verdict(library, (word, weights(library), (value, value, value))), False)
                    self.assertIs(is_verdict(library, (word, ranks(library), value)), False)
                    self.assertIs(is_verdict(library=library, value=(value, [], [])), False)


if __name__ == "__main__":
    unittest.main()
