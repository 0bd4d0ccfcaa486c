"""[231] the bench, [232] back and forth, [233] texts."""

import random
import unittest

from nearhelp.bench import Bench
from nearhelp.errors import (
    Empty, InvalidLine, InvalidName, InvalidProcess, NearError, NoNet, NothingToRedo, NothingToUndo, TooMany,
)
from nearhelp.libraries import Library
from nearhelp.ports import Ports
from nearhelp.processes import Process
from nearhelp.ranks import ranks
from nearhelp.verdicts import verdict
from tests import makers
from tests.helpers import any_values
from tests.judged import JudgedCase
from tests.test_libraries import FIFTEEN, OTHERS, SMALL, WIDE, make, some
from tests.test_typed import GREAT

ONE = Ports([("p", 2)])
AID = make(ONE, "aid", [["p1", "p2"]], [("p1", ("above", ("due", "p2"), 0))])
CALM = make(ONE, "aid", [["p1", "p2"]])
LONE = make(ONE, "lone", [["p1"]])
EITHER = make(ONE, "either", [["p1", "p2", "p2"]], [("p1", ("above", ("due", "p2"), 1))])


class Shadow:
    """A bench told a second time: a list of changes, and how many of them stand."""

    def __init__(self, ports):
        self.ports = ports
        self.changes = []
        self.many = 0

    def change(self, word, given):
        self.changes = self.changes[:self.many] + [(word, given)]
        self.many += 1

    def processes(self):
        found = []
        for word, given in self.changes[:self.many]:
            names = [process.name for process in found]
            if word == "drop":
                del found[names.index(given)]
            elif given.name in names:
                found[names.index(given.name)] = given
            else:
                found.append(given)
        return found

    def text(self):
        lines = []
        for word, given in self.changes[:self.many]:
            lines += ["drop " + given] if word == "drop" else ["put"] + [" " + line for line in given.text().split("\n")]
        return "\n".join(lines)

    def copy(self):
        other = Shadow(self.ports)
        other.changes, other.many = list(self.changes), self.many
        return other


class BenchCase(JudgedCase):
    def raised(self, error, call, *args):
        """The call raises just this error, without attributes."""
        with self.assertRaises(NearError) as caught:
            call(*args)
        self.assertEqual([type(caught.exception), vars(caught.exception)], [error, {}])

    def checks(self, bench, shadow):
        """The bench is as a library made from nothing tells."""
        processes = shadow.processes()
        self.same([bench.names(), len(bench), bench.text()], [[row.name for row in processes], shadow.many, shadow.text()])
        if not processes:
            self.assertIsNone(bench.answer())
            self.raised(Empty, bench.library)
            self.raised(Empty, bench.ranks)
            return
        library = Library(shadow.ports, processes)
        self.assertTrue(bench.library() == library)
        self.same([bench.library().text(), bench.library().standings()], [library.text(), library.standings()])
        self.same(bench.ranks(), ranks(library))
        try:
            wanted = verdict(library)[0]
        except NoNet:
            wanted = None
        self.same(bench.answer(), wanted)
        if shadow.many == len(shadow.changes):
            self.raised(NothingToRedo, bench.redo)
        if shadow.many == 0:
            self.raised(NothingToUndo, bench.undo)


class ChangesTest(BenchCase):
    def test_without_processes(self):
        bench = Bench(ports=ONE)
        self.checks(bench, Shadow(ONE))
        self.raised(NothingToUndo, bench.undo)
        self.raised(NothingToRedo, bench.redo)
        self.same([bench.names(), len(bench), bench.text(), bench.answer()], [[], 0, "", None])

    def test_each_answer(self):
        bench = Bench(ONE)
        for process, wanted in [(LONE, None), (AID, "ever"), (CALM, "number"), (EITHER, "logarithm")]:
            self.assertIsNone(bench.put(process=process))
            self.same(bench.answer(), wanted)
        self.same(bench.names(), ["lone", "aid", "either"])
        self.assertIsNone(bench.drop(name="either"))
        self.same([bench.answer(), bench.names(), len(bench)], ["number", ["lone", "aid"], 5])

    def test_in_the_place_of_another_one(self):
        bench = Bench(SMALL)
        for process in some(6):
            bench.put(process)
        other = make(SMALL, "e", [["q2", "q2"]])
        bench.put(other)
        self.same(bench.names(), list("gfedcb"))
        self.assertTrue(bench.library() == Library(SMALL, [other if row.name == "e" else row for row in some(6)]))
        bench.drop("g")
        bench.put(make(SMALL, "g", [["p1"]]))
        self.same(bench.names(), list("fedcbg"))

    def test_six_and_a_seventh(self):
        bench = Bench(SMALL)
        for process in some(6):
            bench.put(process)
        self.counts(7, bench.put, some(7)[-1])
        self.same([bench.names(), len(bench)], [list("gfedcb"), 6])
        wide = Bench(WIDE)
        for process in some(6, WIDE):
            wide.put(process)
        # A seventh one comes before its own book; one in the place of another one is no seventh.
        self.counts(7, wide.put, GREAT)
        self.counts(41, wide.put, make(WIDE, "g", GREAT.begins))
        wide.put(make(WIDE, "g", [["s1"]]))
        self.same(len(wide), 7)

    def test_thirty_standings_and_more(self):
        bench = Bench(WIDE)
        bench.put(make(WIDE, "one", [FIFTEEN]))
        bench.put(make(WIDE, "two", [OTHERS]))
        self.assertEqual(len(bench.library().standings()), 30)
        self.counts(31, bench.put, make(WIDE, "three", [["s1"]]))
        self.counts(31, bench.put, make(WIDE, "two", [OTHERS, ["s1"]]))
        bench.put(make(WIDE, "three", [["p1"]]))
        self.same([bench.names(), len(bench)], [["one", "two", "three"], 3])

    def test_ports_that_a_library_has_not(self):
        ports = Ports([(name, 2) for name in "pqrst"])
        bench = Bench(ports)
        self.counts(5, bench.put, make(ports, "x", [["p1"]]))
        self.refuses(InvalidProcess, AID, bench.put, AID)
        self.same([len(bench), bench.text(), bench.names()], [0, "", []])

    def test_wrong_processes(self):
        bench = Bench(ONE)
        bench.put(AID)
        bench.put(LONE)
        bench.undo()
        for value in any_values() + [make(SMALL, "x", [["p1"]]), make(Ports([("p", 3)]), "x", [["p1"]]), "aid", [AID], bench]:
            self.refuses(InvalidProcess, value, bench.put, value)
            self.refuses(InvalidProcess, value, bench.put, process=value)
        self.same([len(bench), bench.names()], [1, ["aid"]])
        # What failed has changed nothing, not even what can be made again.
        bench.redo()
        self.same(bench.names(), ["aid", "lone"])
        equal = make(Ports([("p", 2)]), "more", [["p1"]])
        bench.put(equal)
        self.same(bench.names(), ["aid", "lone", "more"])

    def test_wrong_names(self):
        bench = Bench(ONE)
        for value in any_values() + ["aid", "Aid"]:
            self.refuses(InvalidName, value, bench.drop, value)
        bench.put(AID)
        bench.put(LONE)
        bench.undo()
        for value in any_values() + ["lone", "Aid", "aid ", ("aid",), AID]:
            self.refuses(InvalidName, value, bench.drop, value)
            self.refuses(InvalidName, value, bench.drop, name=value)
        bench.redo()
        self.same([bench.names(), len(bench)], [["aid", "lone"], 2])

    def test_lists_are_new(self):
        bench = Bench(ONE)
        bench.put(AID)
        self.new_lists(bench.names)
        self.new_lists(bench.ranks)


class BackAndForthTest(BenchCase):
    def test_undo_and_redo(self):
        bench, shadow = Bench(ONE), Shadow(ONE)
        for word, given in [("put", AID), ("put", LONE), ("drop", "aid"), ("put", CALM), ("put", EITHER)]:
            getattr(bench, word)(given)
            shadow.change(word, given)
            self.checks(bench, shadow)
        for _ in range(5):
            self.assertIsNone(bench.undo())
            shadow.many -= 1
            self.checks(bench, shadow)
        self.raised(NothingToUndo, bench.undo)
        for _ in range(5):
            self.assertIsNone(bench.redo())
            shadow.many += 1
            self.checks(bench, shadow)
        self.raised(NothingToRedo, bench.redo)

    def test_a_change_ends_what_can_be_made_again(self):
        for word, given in [("put", EITHER), ("put", AID), ("drop", "aid")]:
            bench = Bench(ONE)
            bench.put(AID)
            bench.put(LONE)
            bench.put(EITHER)
            bench.undo()
            bench.undo()
            getattr(bench, word)(given)
            self.raised(NothingToRedo, bench.redo)
            bench.undo()
            self.same(bench.names(), ["aid"])
            bench.redo()
            self.raised(NothingToRedo, bench.redo)

    def test_changes_that_fail_end_nothing(self):
        bench = Bench(ONE)
        bench.put(AID)
        bench.put(LONE)
        bench.undo()
        for call, value in [(bench.put, None), (bench.drop, "lone"), (bench.put, make(SMALL, "x", [["p1"]]))]:
            with self.assertRaises(NearError):
                call(value)
            self.same([len(bench), bench.names()], [1, ["aid"]])
        bench.redo()
        self.same(bench.names(), ["aid", "lone"])

    def test_random_changes(self):
        rng, found = random.Random(232), []
        for _ in range(12):
            ports = makers.make_ports(rng, 2)
            bench, shadow = Bench(ports), Shadow(ports)
            for _ in range(40):
                found.append(self.step(rng, bench, shadow))
                self.checks(bench, shadow)
            self.same(Bench.read(ports, bench.text()).text(), shadow.text())
        for word in ["put", "drop", "undo", "redo", "tried", "error"]:
            self.assertGreater(found.count(word), 12)

    def step(self, rng, bench, shadow):
        """Do something with both; return what."""
        word = rng.choice(["put", "put", "put", "drop", "undo", "redo", "tried"])
        if word == "tried":
            other = shadow.copy()
            with_error = rng.random() < 0.3

            def act(desk):
                self.assertIs(desk, bench)
                for _ in range(rng.randint(0, 4)):
                    self.step(rng, desk, other)
                self.checks(desk, other)
                if with_error:
                    raise KeyError(word)
                return desk.names()

            if with_error:
                with self.assertRaises(KeyError):
                    bench.tried(act)
            else:
                self.same(bench.tried(act=act), [row.name for row in other.processes()])
            return word
        names = bench.names()
        if word == "put":
            name = rng.choice(["a", "b", "c", "d"])
            process = makers.make_helper(rng, bench._ports, name)
            return self.changed(bench, shadow, word, process, bench.put)
        if word == "drop":
            return self.changed(bench, shadow, word, rng.choice(names + ["zz"]), bench.drop)
        try:
            bench.undo() if word == "undo" else bench.redo()
        except NearError as error:
            self.assertIs(type(error), NothingToUndo if word == "undo" else NothingToRedo)
            self.assertEqual(shadow.many, 0 if word == "undo" else len(shadow.changes))
            return "error"
        shadow.many += -1 if word == "undo" else 1
        return word

    def changed(self, bench, shadow, word, given, call):
        try:
            call(given)
        except NearError as error:
            if word == "put":
                processes = [row for row in shadow.processes() if row.name != given.name]
                self.assertIs(type(error), TooMany)
                self.assertGreater(len(processes) + 1 if len(processes) > 5 else error.count, 6)
            else:
                self.assertIs(type(error), InvalidName)
            return "error"
        shadow.change(word, given)
        return word


class TriedTest(BenchCase):
    def bench(self):
        bench, shadow = Bench(ONE), Shadow(ONE)
        for process in [AID, LONE, EITHER]:
            bench.put(process)
            shadow.change("put", process)
        bench.undo()
        shadow.many -= 1
        return bench, shadow

    def test_what_is_returned_and_the_very_bench(self):
        bench, shadow = self.bench()
        told = [1]
        self.assertIs(bench.tried(lambda desk: told), told)
        self.assertIs(bench.tried(act=lambda desk: desk), bench)
        self.assertIsNone(bench.tried(lambda desk: desk.put(CALM)))
        self.checks(bench, shadow)
        self.same(bench.tried(lambda desk: [desk.drop("aid"), desk.drop("lone"), desk.answer(), len(desk)]), [None, None, None, 4])
        self.checks(bench, shadow)

    def test_all_that_can_be_taken_back_and_made_again(self):
        acts = [
            lambda desk: desk.put(CALM), lambda desk: [desk.undo(), desk.undo()], lambda desk: desk.redo(),
            lambda desk: [desk.undo(), desk.drop("aid")], lambda desk: [desk.redo(), desk.undo(), desk.undo(), desk.put(LONE)],
        ]
        for act in acts:
            bench, shadow = self.bench()
            bench.tried(act)
            self.checks(bench, shadow)
            bench.redo()
            shadow.many += 1
            self.checks(bench, shadow)
            for _ in range(3):
                bench.undo()
                shadow.many -= 1
                self.checks(bench, shadow)

    def test_trials_that_end_by_an_error(self):
        bench, shadow = self.bench()
        for error in [KeyError("x"), InvalidName("x"), ZeroDivisionError(), StopIteration(), KeyboardInterrupt()]:
            def act(desk):
                desk.drop("aid")
                desk.undo()
                desk.put(CALM)
                raise error

            with self.assertRaises(BaseException) as caught:
                bench.tried(act)
            self.assertIs(caught.exception, error)
            self.checks(bench, shadow)
        with self.assertRaises(InvalidProcess):
            bench.tried(lambda desk: [desk.drop("aid"), desk.put(None)])
        self.checks(bench, shadow)
        with self.assertRaises(NothingToUndo):
            bench.tried(lambda desk: [desk.undo() for _ in range(9)])
        self.checks(bench, shadow)

    def test_trials_within_trials(self):
        bench, shadow = self.bench()

        def inner(desk):
            desk.drop("lone")
            return [desk.names(), len(desk)]

        def outer(desk):
            desk.put(EITHER)
            first = desk.tried(inner)
            try:
                desk.tried(lambda again: [again.drop("either"), again.drop("either")])
            except InvalidName:
                pass
            return [first, desk.names(), len(desk), desk.tried(inner)]

        self.same(bench.tried(outer), [[["aid", "either"], 4], ["aid", "lone", "either"], 3, [["aid", "either"], 4]])
        self.checks(bench, shadow)


class TextTest(BenchCase):
    TEXT = "put\n process aid\n  begin p1 p2\n  refuse p1 if due p2 above 0\nput\n process lone\n  begin p1\ndrop aid"

    def test_words(self):
        bench = Bench(ONE)
        bench.put(AID)
        bench.put(LONE)
        bench.drop("aid")
        self.same(bench.text(), self.TEXT)
        bench.undo()
        self.same(bench.text(), self.TEXT.rpartition("\n")[0])
        self.same(Bench(ONE).text(), "")

    def test_read(self):
        bench = Bench.read(ports=ONE, text=self.TEXT)
        self.assertIs(type(bench), Bench)
        self.same([bench.text(), len(bench), bench.names()], [self.TEXT, 3, ["lone"]])
        self.raised(NothingToRedo, bench.redo)
        for wanted in [["aid", "lone"], ["aid"], []]:
            bench.undo()
            self.same(bench.names(), wanted)
        self.raised(NothingToUndo, bench.undo)
        empty = Bench.read(ONE, "")
        self.same([len(empty), empty.text(), empty.names()], [0, "", []])
        self.same(Bench(ONE).read(ONE, self.TEXT).text(), self.TEXT)

    def test_random_texts(self):
        rng = random.Random(233)
        for _ in range(40):
            ports = makers.make_ports(rng, 3)
            bench = Bench(ports)
            for _ in range(rng.randint(0, 8)):
                try:
                    bench.put(Process(ports, rng.choice("abc"), *makers.make_parts(rng, ports)[1:]))
                except TooMany:
                    continue
                if rng.random() < 0.3:
                    bench.drop(rng.choice(bench.names()))
            again = Bench.read(ports, bench.text())
            self.same([again.text(), again.names(), len(again)], [bench.text(), bench.names(), len(bench)])
            for _ in range(len(bench)):
                again.undo()
                bench.undo()
                self.same([again.text(), again.names()], [bench.text(), bench.names()])

    def wrong(self, text, number, ports=ONE):
        with self.assertRaises(NearError) as caught:
            Bench.read(ports, text)
        self.same([type(caught.exception), vars(caught.exception)], [InvalidLine, {"given": number}])

    def test_lines_that_are_not_as_told(self):
        lines = self.TEXT.split("\n")
        starts = [1, 5, 8]
        for at in range(len(lines)):
            start = max(number for number in starts if number <= at + 1)
            for line in ["Put", "put ", "puts", "", "drop", "drop ", "drop  lone", "take lone", "process aid", "aid", "lone"]:
                text = "\n".join(lines[:at] + [line] + lines[at + 1:])
                # A line that begins a change may cut the one ahead short.
                cut = start if at + 1 == start or at + 1 > start and not self.is_put(lines[start - 1:at]) else at + 1
                self.wrong(text, cut)
        self.wrong("\n".join(lines[1:]), 1)
        self.wrong(" " + self.TEXT, 1)
        self.wrong("\n" + self.TEXT, 1)
        self.wrong(self.TEXT + "\n", 9)
        self.wrong(self.TEXT + "\n ", 8)
        self.wrong(self.TEXT + "\n process lone", 8)
        self.wrong(self.TEXT + "\nput", 9)
        self.wrong("\n", 1)
        self.wrong(" ", 1)

    def is_put(self, lines):
        """Whether lines are a change that puts a process."""
        try:
            return len(Bench.read(ONE, "\n".join(lines))) == 1
        except InvalidLine:
            return False

    def test_lines_of_processes(self):
        text = "put\n process aid\n  begin p1 p2"
        self.same(Bench.read(ONE, text).text(), text)
        for wrong in ["put\n process aid\n begin p1 p2", "put\n  process aid\n   begin p1 p2", "put\n process aid\n  begin p1 p3", "put\n process aid\n  begin p1 p2\n ", "put\n process aid\n  begin p1 p2\n\n", "put\n process aid ", "put\nprocess aid\n begin p1 p2"]:
            self.wrong(wrong, 4 if wrong.endswith("\n\n") else 1)
        self.wrong(text + "\nput\n process Aid\n  begin p1", 4)
        self.wrong(text, 1, Ports([("q", 2)]))

    def test_changes_that_raise_an_error(self):
        text = "put\n process aid\n  begin p1 p2"
        self.wrong(text + "\ndrop bo", 4)
        self.wrong(text + "\ndrop aid\ndrop aid", 5)
        self.wrong("drop aid\n" + text, 1)
        bench = Bench(SMALL)
        for process in some(6):
            bench.put(process)
        many = len(bench.text().split("\n"))
        more = bench.text() + "\nput\n process more\n  begin p1"
        self.wrong(more, many + 1, SMALL)
        # Each change is within the limits in its order, though all processes together are not.
        self.same(len(Bench.read(SMALL, bench.text() + "\ndrop g\nput\n process more\n  begin p1")), 8)
        self.wrong(bench.text() + "\nput\n process more\n  begin p1\ndrop g", many + 1, SMALL)
        wide = Bench(WIDE)
        wide.put(make(WIDE, "one", [FIFTEEN]))
        wide.put(make(WIDE, "two", [OTHERS]))
        self.wrong(wide.text() + "\nput\n process three\n  begin s1\ndrop one", 7, WIDE)
        self.same(Bench.read(WIDE, wide.text() + "\ndrop one\nput\n process three\n  begin s1").names(), ["two", "three"])
        ports = Ports([(name, 2) for name in "pqrst"])
        self.wrong(text, 1, ports)

    def test_long_texts(self):
        # As many changes as a text of 20000 characters has room for.
        text = "\n".join(["put\n process a\n  begin p1\ndrop a"] * 600)
        bench = Bench.read(ONE, text)
        self.same([len(bench), bench.text() == text, bench.names()], [1200, True, []])
        self.wrong(text + "\n" * 3, 2401)


if __name__ == "__main__":
    unittest.main()
