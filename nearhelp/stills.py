"""Nets that stand still, and the weights that show that there are none [131], [132], [133]."""

from nearhelp.bags import items_by
from nearhelp.checks import is_pair
from nearhelp.counts import is_counts, laid
from nearhelp.errors import InvalidCounts, InvalidStanding, InvalidWeights
from nearhelp.integers import lowest
from nearhelp.simplex import solved, strict_pair
from nearhelp.weighing import are_weights, has_refused_enough, still_rows, weights_by, worth


def still(library):
    """Any still counts of which no integer above 1 divides all numbers, None if there are none."""
    return still_or_weights(library)[0]


def weights(library):
    """Any weights by which each standing has a value of at least 1, in lowest terms, None if there are none."""
    return still_or_weights(library)[1]


def still_or_weights(library):
    """Still counts and None, or None and weights by which each standing has a value of at least 1."""
    rows = still_rows(library.ports, library.standings())
    # Still counts are not empty.
    some = [1 for _ in library.standings()] + [0 for _ in library.ports.kinds]
    found, denied = solved(rows + [some], [0 for _ in rows] + [1])
    if found is None:
        return (None, weights_by(library.ports, lowest(denied[:-1])))
    return (_counts_by(library, found[0]), None)


def is_still(library, value):
    """Whether any value is still counts."""
    return is_counts(library, value) and len(value) > 0 and has_refused_enough(library.ports, value)


def is_weights(library, value):
    """Whether any value is weights by which each standing has a value of at least 1."""
    return are_weights(library.ports, value) and all([number >= 1 for number in _values(library, value)])


def value_of(library, weights, standing):
    """The value of a standing by weights."""
    if not are_weights(library.ports, weights):
        raise InvalidWeights(weights)
    if standing not in library.standings():
        raise InvalidStanding(standing)
    return worth(library.ports, weights, standing)


def still_net(library, counts):
    """Any net that stands still, with the standings that the net of still counts has."""
    if not is_still(library, counts):
        raise InvalidCounts(counts)
    # The meetings of this net have a refused end each, as there are enough.
    return laid(library, counts)


def ever(library):
    """Any counts of all standings that nets that stand still can have, with weights that strike all others."""
    numbers, told = strict_pair(still_rows(library.ports, library.standings()))
    return (_counts_by(library, numbers), weights_by(library.ports, lowest(told)))


def is_ever(library, value):
    """Whether any value is such counts with such weights."""
    if not is_pair(value) or not is_counts(library, value[0]) or not are_weights(library.ports, value[1]):
        return False
    if not has_refused_enough(library.ports, value[0]):
        return False
    counted = [standing for standing, _ in value[0]]
    values = list(zip(library.standings(), _values(library, value[1])))
    return all([number >= 0 and (number == 0) == (standing in counted) for standing, number in values])


def _counts_by(library, numbers):
    standings = library.standings()
    return items_by(standings, lowest(numbers[:len(standings)]))


def _values(library, told):
    """The values of all standings, in order."""
    return [worth(library.ports, told, standing) for standing in library.standings()]
