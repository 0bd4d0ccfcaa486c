"""Nets that stand still, and the weights that show that there are none [131], [132], [133]."""

from nearhelp.bags import (
    balance_rows, count_ends, count_refused, items_by, listed, refused_ends, sign_of, told_signs,
)
from nearhelp.checks import are_told, is_pair
from nearhelp.counts import is_counts, laid
from nearhelp.errors import InvalidCounts, InvalidStanding, InvalidWeights
from nearhelp.integers import lowest
from nearhelp.simplex import solved, strict_pair


def still(library):
    """Any still counts of which no integer above 1 divides all numbers, None if there are none."""
    return still_or_weights(library)[0]


def weights(library):
    """Any weights by which each standing has a value of at least 1, in lowest terms, None if there are none."""
    return still_or_weights(library)[1]


def still_or_weights(library):
    """Still counts and None, or None and weights by which each standing has a value of at least 1."""
    rows = _rows(library)
    rest = len(library.ports.kinds)
    # Still counts are not empty.
    some = [1 for _ in library.standings()] + [0 for _ in range(rest)]
    found, denied = solved(rows + [some], [0 for _ in rows] + [1])
    if found is None:
        return (None, _weights_by(library, denied))
    return (_counts_by(library, found[0]), None)


def is_still(library, value):
    """Whether any value is still counts."""
    return is_counts(library, value) and len(value) > 0 and _has_refused_enough(library.ports, value)


def is_weights(library, value):
    """Whether any value is weights by which each standing has a value of at least 1."""
    return _are_weights(library.ports, value) and all([worth >= 1 for worth in _values(library, value)])


def value_of(library, weights, standing):
    """The value of a standing by weights."""
    if not _are_weights(library.ports, weights):
        raise InvalidWeights(weights)
    if standing not in library.standings():
        raise InvalidStanding(standing)
    return _value(library.ports, weights, standing)


def still_net(library, counts):
    """Any net that stands still, with the standings that the net of still counts has."""
    if not is_still(library, counts):
        raise InvalidCounts(counts)
    # The meetings of this net have a refused end each, as there are enough.
    return laid(library, counts)


def ever(library):
    """Any counts of all standings that nets that stand still can have, with weights that strike all others."""
    numbers, told = strict_pair(_rows(library))
    return (_counts_by(library, numbers), _weights_by(library, told))


def is_ever(library, value):
    """Whether any value is such counts with such weights."""
    if not is_pair(value) or not is_counts(library, value[0]) or not _are_weights(library.ports, value[1]):
        return False
    if not _has_refused_enough(library.ports, value[0]):
        return False
    counted = [standing for standing, _ in value[0]]
    values = list(zip(library.standings(), _values(library, value[1])))
    return all([worth >= 0 and (worth == 0) == (standing in counted) for standing, worth in values])


def _rows(library):
    """The rows of balance, and one for each port: its ends on one side less its refused ends, and what is left over.

    A column is for a standing, and behind these for what a port has left over. The integers of these rows are weights
    in a way: those of the ports are told as they are, and those of the sides, as signs, are raised by them.
    """
    ports = library.ports
    standings = library.standings()
    rows = [row + [0 for _ in ports.kinds] for row in balance_rows(ports, standings)]
    closed = [refused_ends(standing) for standing in standings]
    for name, _ in ports.kinds:
        sides = ports.sides_of(name)
        row = [lot.count(sides[0]) - _count_of(ends, sides) for (lot, _), ends in zip(standings, closed)]
        rows.append(row + [1 if other == name else 0 for other, _ in ports.kinds])
    return rows


def _count_of(ends, sides):
    return len([end for end in ends if end in sides])


def _counts_by(library, numbers):
    standings = library.standings()
    return items_by(standings, lowest(numbers[:len(standings)]))


def _weights_by(library, told):
    """Weights by the integers of the rows, in lowest terms."""
    ports = library.ports
    names = [name for name, _ in ports.kinds]
    balance = len(ports.sides()) - len(names)
    terms = lowest(told[:balance + len(names)])
    signs = told_signs(ports, terms[:balance])
    tops = {name: term for name, term in zip(names, terms[balance:])}
    for name in names:
        signs[ports.sides_of(name)[0]] += tops[name]
    return (listed(ports.sides(), signs), listed(names, tops))


def _has_refused_enough(ports, counts):
    """Whether counts have, for each port, at least as many refused ends as ends on one of its sides."""
    for name, _ in ports.kinds:
        sides = ports.sides_of(name)
        if count_refused(counts, sides) < count_ends(counts, sides[0]):
            return False
    return True


def _are_weights(ports, value):
    if not is_pair(value) or not are_told(value[0], ports.sides()):
        return False
    if not are_told(value[1], [name for name, _ in ports.kinds]):
        return False
    signs = dict(value[0])
    for name, top in value[1]:
        if top < max(0, sum([signs[side] for side in ports.sides_of(name)])):
            return False
    return True


def _values(library, told):
    """The values of all standings, in order."""
    return [_value(library.ports, told, standing) for standing in library.standings()]


def _value(ports, told, standing):
    tops = dict(told[1])
    return sign_of(told[0], standing) - sum([tops[ports.kind(side)] for side in refused_ends(standing)])
