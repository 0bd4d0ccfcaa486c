"""The bench [231]: processes that are put, taken away and tried, back and forth [232], and its texts [233]."""

from nearhelp.errors import (
    Empty, InvalidLine, InvalidName, InvalidProcess, InvalidText, NearError, NoNet, NothingToRedo, NothingToUndo,
    TooMany,
)
from nearhelp.libraries import MOST_PROCESSES, Library
from nearhelp.processes import Process, read_process
from nearhelp.ranks import falls, ranks_by
from nearhelp.verdicts import verdict


class Bench:
    """Processes of the same ports, with all changes that have led to them.

    A change is a tuple of its lines in the text of the bench and of the library behind it, None if there are no
    processes. Changes stand in tuples that are never changed themselves, so that a trial can be taken back whole.
    """

    def __init__(self, ports):
        self._ports = ports
        self._done = ()
        self._undone = ()

    def __len__(self):
        return len(self._done)

    def put(self, process):
        """Put a process behind the others, or in the place of the one with its name."""
        if not isinstance(process, Process) or process.ports != self._ports:
            raise InvalidProcess(process)
        processes = self._processes()
        names = self.names()
        if process.name in names:
            processes[names.index(process.name)] = process
        else:
            processes.append(process)
        if len(processes) > MOST_PROCESSES:
            raise TooMany(len(processes))
        lines = ["put"] + [f" {line}" for line in process.text().split("\n")]
        self._change(lines, Library(self._ports, processes))

    def drop(self, name):
        """Take the process with a name away."""
        if name not in self.names():
            raise InvalidName(name)
        processes = [process for process in self._processes() if process.name != name]
        self._change([f"drop {name}"], Library(self._ports, processes) if processes else None)

    def names(self):
        """The list of the names of the processes, in order."""
        return [process.name for process in self._processes()]

    def library(self):
        """The library of the processes."""
        library = self._library()
        if library is None:
            raise Empty()
        return library

    def answer(self):
        """The first item of a verdict on the library, None if there are no processes or no net."""
        library = self._library()
        if library is None:
            return None
        try:
            return verdict(library)[0]
        except NoNet:
            return None

    def ranks(self):
        """The list of the ranks of all sides of the library."""
        library = self.library()
        return ranks_by(library.ports, falls(library))

    def undo(self):
        """Take the last change back that stands."""
        if not self._done:
            raise NothingToUndo()
        self._undone = self._undone + self._done[-1:]
        self._done = self._done[:-1]

    def redo(self):
        """Make the change again that was taken back last."""
        if not self._undone:
            raise NothingToRedo()
        self._done = self._done + self._undone[-1:]
        self._undone = self._undone[:-1]

    def tried(self, act):
        """What a function returns of this bench, which is behind it as it was."""
        done, undone = self._done, self._undone
        try:
            return act(self)
        finally:
            self._done, self._undone = done, undone

    def text(self):
        """The text of the changes that stand."""
        return "\n".join([line for lines, _ in self._done for line in lines])

    @staticmethod
    def read(ports, text):
        """A bench with the changes of a text."""
        bench = Bench(ports)
        for number, lines in _parted(text):
            try:
                bench._take(lines)
            except NearError:
                raise InvalidLine(number) from None
        return bench

    def _take(self, lines):
        """Make the change that some lines tell, or raise any error if they tell none."""
        if lines[0] == "put":
            self.put(read_process(self._ports, "\n".join([line[1:] for line in lines[1:]])))
        elif len(lines) == 1 and lines[0].startswith("drop "):
            self.drop(lines[0].removeprefix("drop "))
        else:
            raise InvalidText(lines[0])

    def _library(self):
        return self._done[-1][1] if self._done else None

    def _processes(self):
        library = self._library()
        return [] if library is None else library.processes()

    def _change(self, lines, library):
        self._done = self._done + ((lines, library),)
        self._undone = ()


def _parted(text):
    """The list of the changes of a text: the number of the line with which each begins, and its lines."""
    parts = []
    if not text:
        return parts
    for at, line in enumerate(text.split("\n")):
        if parts and line.startswith(" "):
            parts[-1][1].append(line)
        else:
            parts.append((at + 1, [line]))
    return parts
