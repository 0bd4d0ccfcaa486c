"""[221] files."""

import random
import unittest

from nearhelp.errors import InvalidText, InvalidVerdict, NoNet
from nearhelp.files import file_text, read_file
from nearhelp.libraries import read_library
from nearhelp.verdicts import is_verdict, verdict
from tests import judges, makers
from tests.helpers import any_values
from tests.judged import JudgedCase, lists_in
from tests.test_joins import FULL, LONE, NOBODY, THIRTY
from tests.test_quick import NUMBER
from tests.test_ranks import ROW
from tests.test_stills import BOTH, CLOSED, EITHER, LONG, RING, TOLD
from tests.test_verdicts import ORDER, TWO

A = (("p1",), ())
GREAT = 10 ** 399
CALM = read_library("port p 2\nprocess calm\n begin p1\n begin p2")
ZEROS = [("p1", 0), ("p2", 0)]
LOGARITHM = ("logarithm", TOLD, ([(A, 1), (LONG, 1)], [("p1", LONG)], LONG))
SIGNED = ("number", [("p1", 1), ("p2", 0), ("q1", 0), ("q2", 0)], [("p1", 0), ("p2", 0), ("q1", 3), ("q2", -3)])


def standing_text(standing):
    return " ".join(("!" if side in standing[1] else "") + side for side in standing[0])


def told_text(library, told):
    """The text of a file, by the words of the point."""
    lines = [library.text(), told[0]]
    if told[0] == "ever":
        lines += [f"count {number} {standing_text(standing)}" for standing, number in told[1]]
    elif told[0] == "logarithm":
        for row in told[1]:
            lines += [f"weight {name} {number}" for name, number in row]
        lines += [f"count {number} {standing_text(standing)}" for standing, number in told[2][0]]
        lines += [f"row {side} {standing_text(standing)}" for side, standing in told[2][1]]
        lines += ["last " + standing_text(told[2][2])]
    else:
        lines += [f"rank {side} {number}" for side, number in told[1]]
        lines += [f"sign {side} {number}" for side, number in told[2]]
    return "\n".join(lines)


class FilesCase(JudgedCase):
    def checks(self, library, told):
        """The text is as the point tells, and is read as the same verdict, with lists; return it."""
        self.assertTrue(is_verdict(library, told))
        before = repr(told)
        text = file_text(library=library, verdict=told)
        self.same(text, told_text(library, told))
        self.same(file_text(library, judges.as_tuples(told)), text)
        found = read_file(text=text)
        self.assertEqual([type(found), len(found)], [tuple, 2])
        self.assertTrue(found[0] == library)
        self.assertEqual(judges.as_tuples(found[1]), judges.as_tuples(told))
        kinds = [type(item) for item in found[1][1:]]
        if told[0] == "logarithm":
            self.assertEqual(kinds + [type(row) for row in found[1][1] + found[1][2]], [tuple, tuple, list, list, list, list, tuple])
        else:
            self.assertEqual(kinds, [list] * len(kinds))
        self.same(file_text(*found), text)
        self.assertEqual(repr(told), before)
        return text

    def wrong(self, text):
        self.refuses(InvalidText, text, read_file, text)


class TextTest(FilesCase):
    def test_each_answer(self):
        for library, word in [(BOTH, "ever"), (CLOSED, "ever"), (FULL, "ever"), (EITHER, "logarithm"), (TWO, "logarithm"), (ORDER, "number"), (ROW, "number"), (THIRTY, "number"), (NUMBER, "number"), (NOBODY, "number")]:
            told = verdict(library)
            self.assertEqual(told[0], word)
            self.checks(library, told)

    def test_words(self):
        self.same(self.checks(BOTH, ("ever", [(RING, 2)])), BOTH.text() + "\never\ncount 2 !p1 p2")
        self.same(self.checks(CALM, ("number", ZEROS, ZEROS)), CALM.text() + "\nnumber\nrank p1 0\nrank p2 0\nsign p1 0\nsign p2 0")
        self.same(self.checks(EITHER, LOGARITHM), EITHER.text() + "\nlogarithm\nweight p1 1\nweight p2 1\nweight p 2"
                  "\ncount 1 p1\ncount 1 !p1 p2 p2\nrow p1 !p1 p2 p2\nlast !p1 p2 p2")
        self.same(self.checks(NOBODY, SIGNED).split("\n")[-1], "sign q2 -3")
        several = read_library("port p 2\nprocess x\n begin p1 p1 p2\n refuse p1 if 0 is 0\nprocess y\n begin p2")
        counts = [((("p1", "p1"), ("p1",)), 1), ((("p2",), ()), 2)]
        self.same(self.checks(several, ("ever", counts)).split("\n")[-2:], ["count 1 !p1 !p1", "count 2 p2"])

    def test_numbers_of_four_hundred_digits(self):
        self.checks(BOTH, ("ever", [(RING, GREAT)]))
        self.checks(BOTH, ("ever", [(RING, 10 * GREAT - 1)]))
        self.checks(EITHER, ("logarithm", ([("p1", GREAT), ("p2", GREAT)], [("p", 2 * GREAT)]), LOGARITHM[2]))
        signs = [("p1", 0), ("p2", 0), ("q1", GREAT), ("q2", -GREAT)]
        self.checks(NOBODY, SIGNED[:2] + (signs,))
        # One digit more: the verdict would be right, but the text is none.
        self.assertTrue(is_verdict(BOTH, ("ever", [(RING, 10 * GREAT)])))
        self.wrong(told_text(BOTH, ("ever", [(RING, 10 * GREAT)])))
        signs = [("p1", 0), ("p2", 0), ("q1", 10 * GREAT), ("q2", -10 * GREAT)]
        self.assertTrue(is_verdict(NOBODY, SIGNED[:2] + (signs,)))
        self.wrong(told_text(NOBODY, SIGNED[:2] + (signs,)))
        self.wrong(told_text(BOTH, ("ever", [(RING, 1)])).replace("count 1", "count " + "1" * 4400))
        self.wrong(told_text(BOTH, ("ever", [(RING, 1)])).replace("count 1", "count " + "0" * 15000 + "1"))

    def test_random_libraries(self):
        rng, found = random.Random(221), []
        for _ in range(150):
            library = makers.make_any_library(rng)
            try:
                told = verdict(library)
            except NoNet:
                continue
            self.checks(library, told)
            found.append(told[0])
        self.assertGreater(min(found.count(word) for word in ["ever", "logarithm", "number"]), 10)

    def test_new_lists(self):
        for library in [BOTH, TWO, ORDER]:
            text = file_text(library, verdict(library))
            found = read_file(text)[1]
            rows = lists_in(found)
            self.assertEqual(len(rows), len({id(row) for row in rows}))
            wanted = repr(found)
            for row in rows:
                row.clear()
            self.assertEqual(repr(read_file(text)[1]), wanted)


class WrongTextTest(FilesCase):
    TEXTS = [
        (BOTH, ("ever", [(RING, 12)])), (EITHER, LOGARITHM), (TWO, verdict(TWO)), (ORDER, verdict(ORDER)), (NOBODY, SIGNED),
    ]

    def read_or_wrong(self, text):
        """A text near a file is read only if it is the file of what is read; tell whether it is."""
        try:
            library, told = read_file(text)
        except InvalidText as error:
            self.assertIs(error.given, text)
            return False
        self.assertTrue(is_verdict(library, told))
        self.same(told_text(library, told), text)
        return True

    def test_a_line_more_or_less(self):
        for library, told in self.TEXTS:
            lines = told_text(library, told).split("\n")
            for at in range(len(lines)):
                for other in [lines[:at] + lines[at + 1:], lines[:at + 1] + lines[at:], lines[:at] + [""] + lines[at:], lines[:at] + lines[at:][::-1]]:
                    self.read_or_wrong("\n".join(other))
            start = lines.index(told[0])
            for at in range(start, len(lines)):
                self.wrong("\n".join(lines[:at] + lines[at:at + 1] + lines[at:]))
                if told[0] != "logarithm" or not lines[at].startswith("count"):
                    self.wrong("\n".join(lines[:at] + lines[at + 1:]))

    def test_a_word_more_or_less(self):
        for library, told in self.TEXTS:
            lines = told_text(library, told).split("\n")
            start = lines.index(told[0])
            for at in range(start, len(lines)):
                words = lines[at].split(" ")
                for place in range(len(words)):
                    for other in [words[:place] + words[place + 1:], words[:place] + [words[place]] + words[place:], words[:place] + [""] + words[place:], words[:place] + ["p1"] + words[place:]]:
                        self.read_or_wrong("\n".join(lines[:at] + [" ".join(other)] + lines[at + 1:]))
                for other in [lines[at] + " ", " " + lines[at], lines[at] + " 1", lines[at] + " p1", lines[at].upper()]:
                    if other != lines[at]:
                        self.wrong("\n".join(lines[:at] + [other] + lines[at + 1:]))

    def test_ends(self):
        for library, told in self.TEXTS:
            text = told_text(library, told)
            for other in [text + "\n", "\n" + text, text + " ", " " + text, text[:-1], text + "\n" + text, library.text(), "", told[0], told[0] + text]:
                self.wrong(other)
            self.wrong("\n".join(text.split("\n")[library.text().count("\n") + 1:]))

    def test_numbers_written_otherwise(self):
        text = told_text(BOTH, ("ever", [(RING, 12)]))
        for number in ["012", "+12", " 12", "1_2", "12.0", "1e1", "0xc", "-12", "0", "-0", "", "twelve", "1 2", "--12", "-", "12-", "True", "!12"]:
            self.wrong(text.replace("count 12", f"count {number}"))
        text = told_text(NOBODY, SIGNED)
        for number in ["-03", "--3", "- 3", "+3", "3", "-3.0", "-0x3", "-3 ", "-3-", "3-"]:
            self.wrong(text.replace("sign q2 -3", f"sign q2 {number}"))
        for number in ["-0", "+0", "00", "", "!0"]:
            self.wrong(text.replace("sign p1 0", f"sign p1 {number}"))
            self.wrong(text.replace("rank p2 0", f"rank p2 {number}"))

    def test_marks_of_refused_items(self):
        text = told_text(BOTH, ("ever", [(RING, 1)]))
        for standing in ["p1 p2", "!p1 !p2", "p1! p2", "!!p1 p2", "! p1 p2", "!p1 p2 p2", "p2 !p1", "!p1", "!P1 p2", "!p1  p2", ""]:
            self.wrong(text.replace("!p1 p2", standing))
        library = read_library("port p 2\nprocess x\n begin p1 p1\n refuse p1 if 0 is 0\nprocess y\n begin p2")
        text = told_text(library, verdict(library))
        self.assertTrue(self.read_or_wrong(text))
        for standing in ["!p1 p1", "p1 !p1"]:
            self.wrong(text.replace("!p1 !p1", standing))

    def test_right_texts_of_a_wrong_verdict(self):
        self.wrong(told_text(BOTH, ("ever", [(LONG, 1)])))
        self.wrong(told_text(BOTH, ("ever", [])))
        self.wrong(told_text(EITHER, ("ever", [(RING, 1)])))
        self.wrong(told_text(BOTH, ("number", ZEROS, ZEROS)))
        self.wrong(told_text(BOTH, LOGARITHM))
        self.wrong(told_text(EITHER, ("logarithm", ([("p1", 1), ("p2", 1)], [("p", 3)]), LOGARITHM[2])))
        self.wrong(told_text(EITHER, ("logarithm", TOLD, ([(A, 1), (LONG, 1)], [], LONG))))
        self.wrong(told_text(EITHER, ("logarithm", TOLD, ([(A, 1), (LONG, 1)], [("p1", LONG)], A))))
        self.wrong(told_text(ORDER, ("number", [("p1", 0), ("p2", 0), ("q1", 0), ("q2", 0)], verdict(ORDER)[2])))
        nothing = [("p1", 0), ("p2", 0), ("q1", 0), ("q2", 0)]
        self.assertTrue(self.read_or_wrong(told_text(NOBODY, ("number", nothing, SIGNED[2]))))
        self.wrong(told_text(NOBODY, ("number", nothing, nothing)))
        self.wrong(told_text(LONE, ("number", ZEROS, [("p1", 1), ("p2", -1)])))
        self.assertTrue(self.read_or_wrong(told_text(EITHER, LOGARITHM)))

    def test_wrong_libraries(self):
        text = told_text(CALM, ("number", ZEROS, ZEROS))
        for old, new in [("port p 2", "port p 1"), ("port p 2", "port p 3"), ("process calm", "process Calm"), (" begin p1", "begin p1"), ("port p 2\n", ""), (" begin p2", " begin p3")]:
            self.wrong(text.replace(old, new))
        # A word of a verdict further ahead or further behind.
        self.wrong(text.replace("port p 2", "number\nport p 2"))
        self.wrong(text + "\nnumber")
        self.wrong(text.replace("\nnumber", "\never"))
        self.wrong(text.replace("\nnumber", ""))
        self.wrong(text.replace("\nnumber", "\nlogarithm"))

    def test_any_value(self):
        for value in any_values():
            self.wrong(value)
            self.refuses(InvalidText, value, read_file, text=value)
        self.wrong("ever\n" * 3000)
        self.wrong(CALM.text() + "\nnumber" + "\nrank p1 0" * 1900)
        self.wrong([told_text(CALM, ("number", ZEROS, ZEROS))])


class WrongVerdictTest(FilesCase):
    def test_any_value(self):
        for library in [BOTH, EITHER, ORDER, LONE]:
            for value in any_values():
                self.refuses(InvalidVerdict, value, file_text, library, value)
                self.refuses(InvalidVerdict, value, file_text, library=library, verdict=value)

    def test_verdicts_of_others_and_with_one_place_changed(self):
        for library, told in WrongTextTest.TEXTS:
            no = 0
            for value in judges.one_place_changed(told):
                if is_verdict(library, value):
                    self.same(file_text(library, value), told_text(library, value))
                else:
                    no += 1
                    self.refuses(InvalidVerdict, value, file_text, library, value)
            self.assertGreater(no, 20)
            self.refuses(InvalidVerdict, told, file_text, CALM, told)
        told = ("number", ZEROS, ZEROS)
        self.refuses(InvalidVerdict, told, file_text, BOTH, told)


if __name__ == "__main__":
    unittest.main()
