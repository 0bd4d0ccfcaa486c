"""What a call on each side of each process has to wait for [201], and how long [202]."""

from nearhelp.bounds import bound_by
from nearhelp.errors import NotDue, NotNumber
from nearhelp.joins import left
from nearhelp.ranks import far_by, falls_of
from nearhelp.stills import ever


def waits(library):
    """The list of the processes, each with each side that is due in its book, and a word for how long that waits."""
    distances = _distances(library)
    still = [standing for standing, _ in ever(library)[0]]
    told = []
    for name in library.names():
        for side in _due_sides(library.book(name)):
            found = [standing for standing in _standings_with(library.book(name), side) if standing in distances]
            told.append((name, side, _word(found, still, distances)))
    return told


def wait_bound(library, name, side):
    """How many rounds a meeting on a side of a process waits at most, if nobody stops."""
    book = library.book(name)
    if side not in _due_sides(book):
        raise NotDue(side)
    word = [row[2] for row in waits(library) if row[:2] == (name, side)][0]
    if word != "number":
        raise NotNumber(word)
    distances = _distances(library)
    found = [distances[standing] for standing in _standings_with(book, side) if standing in distances]
    return library.most * bound_by(library, max(found))


def _distances(library):
    """How far each standing that is left is, by standings."""
    kept = left(library)
    falls = falls_of(library.ports, kept)
    return {standing: far_by(library.ports, falls, standing) for standing in kept}


def _due_sides(book):
    """The ascending list of the sides that are due in the states of a book."""
    return sorted({side for lot, _ in book.standings() for side in lot})


def _standings_with(book, side):
    return [standing for standing in book.standings() if side in standing[0]]


def _word(found, still, distances):
    """The word for a side that these standings have that are left."""
    if not found:
        return "none"
    if any([standing in still for standing in found]):
        return "ever"
    return "endless" if None in [distances[standing] for standing in found] else "number"
