"""Ranks as a discipline that judges each process alone: keeping [181], least ranks [182], one process more [183]."""

from nearhelp.bags import are_ranks, is_keeping, listed, open_ends
from nearhelp.books import Book
from nearhelp.errors import InvalidProcess, InvalidProcesses, InvalidRanks, NotNumber, Struck, TooMany
from nearhelp.joins import struck
from nearhelp.libraries import MOST_PROCESSES, Library, are_processes
from nearhelp.processes import Process
from nearhelp.ranks import falls, ranks_by
from nearhelp.verdicts import verdict


def keeps(process, ranks):
    """Whether all standings of the book of a process keep told ranks."""
    return why_not(process, ranks) is None


def why_not(process, ranks):
    """The first standing of the book of a process that does not keep told ranks, None if all do."""
    if not are_ranks(process.ports, ranks):
        raise InvalidRanks(ranks)
    told = dict(ranks)
    for standing in Book(process).standings():
        if not is_keeping(process.ports, standing, told):
            return standing
    return None


def least_ranks(ports, processes):
    """The told ranks that all of the processes keep and that are the least for each side, None if there are none."""
    if not are_processes(ports, processes):
        raise InvalidProcesses(processes)
    standings = [standing for book in [Book(process) for process in processes] for standing in book.standings()]
    sides = ports.sides()
    told = {side: 0 for side in sides}
    # Ranks are raised only as far as all told ranks that are kept must be raised.
    wanting = [standing for standing in standings if not is_keeping(ports, standing, told)]
    while wanting:
        for standing in wanting:
            rows = [[told[other] for other in ports.others(side)] for side in open_ends(standing)]
            least = min([max(row) + 1 for row in rows] + [len(sides)])
            if least == len(sides):
                return None
            told.update({side: max(told[side], least) for side in standing[1]})
        wanting = [standing for standing in standings if not is_keeping(ports, standing, told)]
    return listed(sides, told)


def added(library, process):
    """What a further process does to the ranks of a library."""
    if not _is_further(library, process):
        raise InvalidProcess(process)
    processes = library.processes() + [process]
    if len(processes) > MOST_PROCESSES:
        raise TooMany(len(processes))
    wider = Library(library.ports, processes)
    word = verdict(library)[0]
    if word != "number":
        raise NotNumber(word)
    missing = struck(library) + struck(wider)
    if missing:
        raise Struck(missing[0])
    ranks = _ranks_of(library)
    for (side, rank), (_, new) in zip(ranks, _ranks_of(wider)):
        if new != rank:
            return ("lifted", side, rank, new)
    return ("kept", ranks)


def _is_further(library, value):
    """Whether any value is a process that may stand behind those of a library."""
    if not isinstance(value, Process) or value.ports != library.ports:
        return False
    return value.name not in library.names()


def _ranks_of(library):
    return ranks_by(library.ports, falls(library))
