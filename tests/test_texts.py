"""[22], [33], [42], [82] texts: what is written is read back, and nothing else is read."""

import random
import re
import unittest

from nearhelp.errors import InvalidText, NearError
from nearhelp.libraries import Library, read_library
from nearhelp.ports import Ports, read_ports
from nearhelp.processes import Process, read_process
from nearhelp.words import condition_text, read_condition
from tests import makers
from tests.helpers import NearCase, any_values

SMALL = Ports([("p", 2), ("q", 3)])
SIGNS = " \n0129-+paif!_P~"
LONG = ["9" * 20000, "0" * 19999 + "2", "1" + "0" * 5000, "\n" * 20000, " " * 20000, "p" * 20000, "not " * 5000]


def beside(text):
    """The texts that are one sign or one line beside a text."""
    found = []
    for at in range(len(text) + 1):
        found += [text[:at] + sign + text[at:] for sign in SIGNS]
        if at < len(text):
            found.append(text[:at] + text[at + 1:])
            found += [text[:at] + sign + text[at + 1:] for sign in SIGNS]
    lines = text.split("\n")
    for at in range(len(lines)):
        found.append("\n".join(lines[:at] + lines[at + 1:]))
        found.append("\n".join(lines[:at] + [lines[at]] + lines[at:]))
        for place in range(at):
            rest = lines[:at] + lines[at + 1:]
            found.append("\n".join(rest[:place] + [lines[at]] + rest[place:]))
    return sorted(set(found) - {text})


class TextCase(NearCase):
    def refused(self, text):
        self.refuses(InvalidText, text, self.read, text)

    def all_but_texts(self):
        for value in any_values():
            self.refused(value)
        for text in LONG:
            self.refused(text)

    def beside_all(self, text, right):
        """All texts beside a text are refused, but those that `right`, if it can read them, has as their own."""
        kept = 0
        for other in beside(text):
            try:
                found = self.read(other)
            except NearError as error:
                self.assertIs(type(error), InvalidText)
                self.assertIs(error.given, other)
            else:
                self.assertEqual(right(found), other)
                kept += 1
        return kept


class PortsTextTest(TextCase):
    read = staticmethod(read_ports)

    def test_written(self):
        self.assertEqual(Ports([("q", 3), ("p", 2), ("abcd", 2)]).text(), "port q 3\nport p 2\nport abcd 2")
        self.assertEqual(Ports([("port", 3)]).text(), "port port 3")

    def test_read_back(self):
        rng = random.Random(22)
        for _ in range(60):
            ports = makers.make_ports(rng)
            self.assertEqual(read_ports(ports.text()).kinds, ports.kinds)
            self.assertTrue(read_ports(text=ports.text()) == ports)

    def test_no_ports(self):
        self.all_but_texts()
        lines = [f"port {name} 2" for name in "abcdefghijklm"]
        self.assertEqual(len(read_ports("\n".join(lines[:12])).kinds), 12)
        for text in ["\n".join(lines), "port p 2\nport p 3", "port p 2\nport p 2", "port p 4", "port p 1", "port p 02"]:
            self.refused(text)
        for text in ["port p 2 ", " port p 2", "port  p 2", "port p  2", "port p 2\n", "\nport p 2", "port p 2\n\nport q 2"]:
            self.refused(text)
        for text in ["port p", "port", "port 2", "p 2", "Port p 2", "port abcde 2", "port p two", "port p 2 2", "port p +2"]:
            self.refused(text)
        for number in ["2" * 5000, "3" + "0" * 19000, "-2", "2.0", "0x2", "1" * 4400]:
            self.refused("port p " + number)

    def test_beside(self):
        text = "port p 2\nport ab 3"
        kept = self.beside_all(text, lambda ports: ports.text())
        names = [re.findall("^port ([a-z]{1,4}) [23]$", other, re.M) for other in beside(text)]
        lines = [other.count("\n") + 1 for other in beside(text)]
        right = [row for row, many in zip(names, lines) if len(set(row)) == many]
        self.assertEqual(kept, len(right))
        self.assertGreater(kept, 20)


class ConditionTextTest(TextCase):
    @staticmethod
    def read(text):
        return read_condition(SMALL, ["a", "cup"], text)

    def test_written(self):
        told = {
            "a is 2": ("is", "a", 2),
            "0 above due q3": ("above", 0, ("due", "q3")),
            "not due p1 is cup": ("not", ("is", ("due", "p1"), "cup")),
            "both 1 is 2 either a is 0 a above 9": ("both", ("is", 1, 2), ("either", ("is", "a", 0), ("above", "a", 9))),
            "either not not a is 1 2 is 2": ("either", ("not", ("not", ("is", "a", 1))), ("is", 2, 2)),
        }
        for text, condition in told.items():
            self.assertEqual(condition_text(condition=condition), text)
            self.same(self.read(text), condition)
            self.same(read_condition(ports=SMALL, numbers=("cup", "a"), text=text), condition)

    def test_read_back(self):
        rng = random.Random(33)
        for _ in range(200):
            ports = makers.make_ports(rng, 4)
            condition = makers.make_condition(rng, ports, ["a", "kettles"])
            self.same(read_condition(ports, ["a", "kettles"], condition_text(condition)), condition)

    def test_no_conditions(self):
        self.all_but_texts()
        self.assertEqual(self.read("not not not a is 1")[0], "not")
        for text in ["not not not not a is 1", "both " * 4 + "a is 1 " * 4 + "a is 1", "not " * 12 + "a is 1"]:
            self.refused(text)
        for text in ["a is", "a", "is 1", "is", "a 1", "not", "both a is 1", "both a is 1 a is 1 a is 1", "a is 1 a is 1"]:
            self.refused(text)
        for text in ["b is 1", "a is 10", "a is 01", "a is -1", "a is " + "1" * 6000, "due is 1", "due p3 is 1", "p1 is 1"]:
            self.refused(text)
        for text in ["a  is 1", " a is 1", "a is 1 ", "a is 1\n", "a\nis 1", "A is 1", "a below 1", "due  p1 is 1", "a is due"]:
            self.refused(text)
        self.refuses(InvalidText, "a is 1", read_condition, SMALL, [], "a is 1")
        self.refuses(InvalidText, "due p1 is 1", read_condition, Ports([("q", 2)]), [], "due p1 is 1")

    def test_beside(self):
        kept = self.beside_all("either due p1 above a not cup is 2", condition_text)
        self.assertGreater(kept, 3)
        kept = self.beside_all("both not 1 is 0 not not a above 9", condition_text)
        self.assertGreater(kept, 3)


IF = ("if", ("not", ("is", "a", 1)), [("set", "a", "cup")], [("take", "cup", ("due", "p1"))])
WHOLE = Process(
    SMALL, "tea", [("a", 3), ("cup", 1)], [["p2", "p1"], ["q3"]],
    [("p1", [("repeat", 0, [IF, ("if", ("is", 0, 0), [], [])]), ("add", "a", 9)]), ("q3", []), ("p2", [
        ("if", ("is", "a", 2), [], [("repeat", 9, []), ("repeat", 1, [("add", "a", "a")])]), IF,
    ])],
    [("q3", ("is", "a", 1)), ("p1", ("both", ("is", "a", 1), ("above", ("due", "p2"), 0)))],
)
WHOLE_TEXT = """process tea
 number a 3
 number cup 1
 begin p2 p1
 begin q3
 at p1
  repeat 0 times
   if not a is 1
    set a to cup
   else
    take cup by due p1
   if 0 is 0
  add a by 9
 at q3
 at p2
  if a is 2
  else
   repeat 9 times
   repeat 1 times
    add a by a
  if not a is 1
   set a to cup
  else
   take cup by due p1
 refuse q3 if a is 1
 refuse p1 if both a is 1 due p2 above 0"""


class ProcessTextTest(TextCase):
    @staticmethod
    def read(text):
        return read_process(SMALL, text)

    def test_written_and_read_back(self):
        self.assertEqual(WHOLE.text(), WHOLE_TEXT)
        self.assertTrue(self.read(WHOLE_TEXT) == WHOLE)
        self.assertTrue(read_process(ports=SMALL, text=WHOLE_TEXT) == WHOLE)
        plain = Process(SMALL, "process", [], [["p1"]], [], [])
        self.assertEqual(plain.text(), "process process\n begin p1")
        self.assertTrue(self.read(plain.text()) == plain)

    def test_random_ones(self):
        rng = random.Random(42)
        for _ in range(200):
            ports = makers.make_ports(rng)
            process = makers.make_process(rng, ports)
            other = read_process(ports, process.text())
            self.assertTrue(other == process)
            self.same(other.does, process.does)

    def test_no_processes(self):
        self.all_but_texts()
        head = "process tea\n number a 3\n begin p1"
        self.read(head)
        lines = ["process tea\n begin p1\n number a 3", "process tea\n number a 3", "process tea", "process", "tea"]
        lines += [head + "\n", head + "\n ", head + "\n\n", "\n" + head, " " + head, head + "\n begin p1\n number cup 3"]
        lines += [head.replace("3", other) for other in ["0", "4", "03", "3 3", "3" * 6000, "+3", "a", ""]]
        lines += [head.replace(" begin", other) for other in ["begin", "  begin", " Begin", " start", ""]]
        lines += [head.replace("p1", other) for other in ["", "p3", "p1 ", "p1  p1", "p1,p1", " p1", "p1 p1 p1 p1 p1"]]
        lines += [head + "\n at p1" + steps for steps in [
            "\n set a to 1", "\n   set a to 1", "\n  set a to", "\n  set a by 1", "\n  add a to 1", "\n  set a to 10",
            "\n  set a", "\n  set", "\n  set b to 1", "\n  set a to 1 1", "\n  set a to due", "\n  else",
            "\n  if a is 1\n  else", "\n  if a is 1\n   else\n   set a to 1", "\n  if a is 1\n  else\n  else\n   set a to 1",
            "\n  if", "\n  if a is", "\n  if a is 1 2", "\n  if a is 1\n    set a to 1", "\n  repeat 1", "\n  repeat times",
            "\n  repeat 10 times", "\n  repeat 1 time", "\n  repeat 1 times 1", "\n  repeat " + "1" * 5000 + " times",
            "\n  repeat a times", "\n  repeat 01 times", "\n  put a to 1", "\n  ", "\n  set a to 1\n ", " p2", "\n at p1",
            "\n  set a to 1" * 7, "\n  repeat 2 times\n   repeat 2 times\n    repeat 2 times",
            "\n  repeat 2 times\n   repeat 2 times\n    repeat 2 times\n     set a to 1",
        ]]
        lines += [head + "\n at" + rest for rest in ["", " ", " p3", " p1 p2", "  p1", " a"]]
        lines += [head + "\n refuse" + rest for rest in [
            "", " p1", " p1 if", " p1 a is 1", " if a is 1", " p1 if a is 1 ", " p3 if a is 1", " p1 when a is 1",
            " p1 if a is 1\n at p1", " p1 if b is 1", " p1 if not not not not a is 1", " p1  if a is 1",
        ]]
        lines += [head + "\n refuse p1 if a is 1" * 7, head + "\n at p1\n at p2\n at p1", head + "\n begin p1" * 3]
        for text in lines:
            self.refused(text)
        for text in [head + "\n refuse p1 if a is 1" * 6, head + "\n begin p1" * 2, head + "\n at p1" + "\n  set a to 1" * 6]:
            self.assertEqual(self.read(text).text(), text)

    def test_many_lines_and_deep_ones(self):
        head = "process tea\n begin p1\n at p1"
        stairs = "".join("\n" + " " * front + "if 0 is 0" for front in range(2, 180))
        for text in [head + stairs, head + "\n  repeat 9 times" * 1000, head + "\n at p2" * 2000, head + "\n" * 19000]:
            self.assertLess(len(text), 20000)
            self.refused(text)
        self.refused(head + "\n refuse p1 if " + "not " * 4900 + "0 is 0")
        # Far beyond what callers pass: reading does not go as deep as a text does.
        for below in ["if 0 is 0", "repeat 2 times", "if 0 is 0\n{}else"]:
            rows = [" " * front + below.format(" " * front) for front in range(2, 1100)]
            self.refused(head + "\n" + "\n".join(rows))
        self.refused(head + "\n begin" + " p1" * 6000)

    def test_beside(self):
        kept = self.beside_all(WHOLE_TEXT, lambda process: process.text())
        self.assertGreater(kept, 20)


class LibraryTextTest(TextCase):
    read = staticmethod(read_library)

    def test_written_and_read_back(self):
        ports = Ports([("q", 3), ("p", 2)])
        tea = Process(ports, "tea", [], [["p1", "p2"]], [("p1", [])], [("p1", ("above", ("due", "p2"), 0))])
        port = Process(ports, "port", [("a", 1)], [["q2"], ["q2"]], [("q2", [("set", "a", 1)])], [])
        library = Library(ports, [tea, port])
        text = "\n".join([
            "port q 3", "port p 2", "process tea", " begin p1 p2", " at p1", " refuse p1 if due p2 above 0",
            "process port", " number a 1", " begin q2", " begin q2", " at q2", "  set a to 1",
        ])
        self.assertEqual(library.text(), text)
        self.assertTrue(read_library(text) == library)
        self.assertTrue(read_library(text=text) == library)
        self.assertFalse(read_library(text) == Library(ports, [port, tea]))
        kept = self.beside_all(text, lambda found: found.text())
        self.assertGreater(kept, 10)

    def test_random_ones(self):
        rng, made = random.Random(82), 0
        for _ in range(120):
            ports = makers.make_ports(rng, 4)
            try:
                library = Library(ports, [makers.make_process(rng, ports) for _ in range(rng.randint(1, 2))])
            except NearError:
                continue
            made += 1
            self.assertTrue(read_library(library.text()) == library)
        self.assertGreater(made, 40)

    def test_no_libraries(self):
        self.all_but_texts()
        ports, process = "port p 2\nport q 2", "process tea\n begin p1"
        self.read(ports + "\n" + process)
        for text in [ports, process, ports + "\n", ports + process, process + "\n" + ports, ports + "\n\n" + process]:
            self.refused(text)
        for text in [ports + "\n" + process + "\n", "\n" + ports + "\n" + process, ports + "\nprocess tea\n begin r1"]:
            self.refused(text)
        for text in [ports + "\nprocess", ports + "\nprocess tea", ports + "\n " + process, ports + "\n begin p1"]:
            self.refused(text)
        self.refused("port p 2\n" + process + "\nport q 2\nprocess cup\n begin p1")

    def test_libraries_that_are_too_great(self):
        ports, process = "port p 2\nport q 2", "process {}\n begin p1"
        six = [process.format(name) for name in "abcdef"]
        self.read("\n".join([ports] + six))
        self.refused("\n".join([ports] + six + [process.format("g")]))
        self.refused("\n".join([ports, six[0], six[0]]))
        self.refused("\n".join([ports] + six * 150))
        self.read("port p 2\nport q 2\nport r 2\nport s 2\n" + six[0])
        self.refused("port p 2\nport q 2\nport r 2\nport s 2\nport t 2\n" + six[0])
        wide = "port p 3\nport q 3\nport r 3\nport s 3\n"
        full = "process a\n begin p1 p2 p3 q1\n begin q2 q3 r1 r2"
        self.assertEqual(len(self.read(wide + full).standings()), 30)
        self.assertEqual(len(self.read(wide + full).book("a").states()), 30)
        self.refused(wide + full + "\n begin s1")
        self.refused(wide + full + "\nprocess b\n begin s1")
        self.refused(wide + full + "\n begin r3 s1 s2 s3")


if __name__ == "__main__":
    unittest.main()
