"""Refusals that a process may leave out, so that no call waits longer than a number of rounds [211]."""

from nearhelp.errors import InvalidSide, NoNet, TooMany
from nearhelp.libraries import Library
from nearhelp.processes import Process
from nearhelp.verdicts import verdict


def without(process, side):
    """The process that refuses a side no longer."""
    if not process.ports.has(side):
        raise InvalidSide(side)
    refuses = [item for item in process.refuses if item[0] != side]
    return Process(process.ports, process.name, process.numbers, process.begins, process.does, refuses)


def cures(library):
    """The list of the processes, each with each side that it may refuse no longer, so that the answer is a number."""
    return [
        (process.name, side)
        for process in library.processes()
        for side in sorted({item[0] for item in process.refuses})
        if _is_cure(library, without(process, side))
    ]


def _is_cure(library, process):
    """Whether the answer is a number for a library with a process in the place of the one with its name."""
    processes = [process if own.name == process.name else own for own in library.processes()]
    try:
        return verdict(Library(library.ports, processes))[0] == "number"
    except (NoNet, TooMany):
        return False
