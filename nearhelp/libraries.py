"""Libraries [81] and their texts [82]."""

from nearhelp.books import Book
from nearhelp.checks import are_different, is_list
from nearhelp.errors import InvalidName, InvalidProcesses, InvalidStanding, InvalidText, NearError, TooMany
from nearhelp.ports import read_ports
from nearhelp.processes import Process, read_process

MOST_PROCESSES = 6
MOST_PORTS = 4
MOST_STANDINGS = 30


class Library:
    """The processes that the hands of a net can run."""

    def __init__(self, ports, processes):
        if not are_processes(ports, processes):
            raise InvalidProcesses(processes)
        if len(ports.kinds) > MOST_PORTS:
            raise TooMany(len(ports.kinds))
        books = {process.name: Book(process) for process in processes}
        holders = _holders(books)
        if len(holders) > MOST_STANDINGS:
            raise TooMany(len(holders))
        self.ports = ports
        self.most = max([len(lot) for lot, _ in holders])
        self._books = books
        self._holders = holders
        self._standings = sorted(list(holders))

    def __eq__(self, other):
        if not isinstance(other, Library):
            return False
        return self.ports == other.ports and self.processes() == other.processes()

    def processes(self):
        """The list of the processes, in order."""
        return [self._books[name].process for name in self._books]

    def names(self):
        """The list of the names of the processes, in order."""
        return list(self._books)

    def book(self, name):
        """The book of the process with a name."""
        if not isinstance(name, str) or name not in self._books:
            raise InvalidName(name)
        return self._books[name]

    def standings(self):
        """The ascending list of the different standings of all processes."""
        return list(self._standings)

    def holders(self, standing):
        """The list of the names and indices of all states with a standing."""
        # The value may have no hash, so it is looked for in the list first.
        if standing not in self._standings:
            raise InvalidStanding(standing)
        return list(self._holders[standing])

    def text(self):
        """The text of the library."""
        return "\n".join([self.ports.text()] + [process.text() for process in self.processes()])


def read_library(text):
    """The library with a text."""
    if not isinstance(text, str):
        raise InvalidText(text)
    first, rest = _parted(text.split("\n"))
    try:
        ports = read_ports(first)
        return Library(ports, [read_process(ports, part) for part in rest])
    except NearError:
        raise InvalidText(text) from None


def are_processes(ports, value):
    """Whether any value is a list of processes of different names that a library of these ports may have."""
    if not is_list(value) or not 1 <= len(value) <= MOST_PROCESSES:
        return False
    if not all([isinstance(item, Process) and item.ports == ports for item in value]):
        return False
    return are_different([process.name for process in value])


def _holders(books):
    """The holders of each standing of some books."""
    holders = {}
    for name, book in books.items():
        for index in range(len(book.states())):
            holders.setdefault(book.standing(index), []).append((name, index))
    return holders


def _parted(lines):
    """The text ahead of the first process, and the texts of the processes."""
    parts = [[]]
    for line in lines:
        if line.startswith("process "):
            parts.append([])
        parts[-1].append(line)
    texts = ["\n".join(part) for part in parts]
    return (texts[0], texts[1:])
