"""Counts [121], and nets of them [123]."""

from nearhelp.bags import are_items, is_balanced, open_ends, refused_ends
from nearhelp.errors import InvalidCounts, TooMany
from nearhelp.integers import column
from nearhelp.nets import MOST_HANDS, Net


def is_counts(library, value):
    """Whether any value is counts of a library."""
    return are_items(library, value) and is_balanced(library.ports, value)


def laid(library, counts):
    """A net with the standings of counts, as many copies of it as a port has sides at most.

    Where there are enough refused ends for all meetings of a port, each of its meetings has one.
    """
    if not is_counts(library, counts) or not counts:
        raise InvalidCounts(counts)
    copies = max([sides for _, sides in library.ports.kinds])
    many = copies * sum([number for _, number in counts])
    if many > MOST_HANDS:
        raise TooMany(many)
    standings = [standing for standing, number in counts for _ in range(number)]
    hands = [library.holders(standing)[0] for standing in standings for _ in range(copies)]
    meetings = []
    for name, _ in library.ports.kinds:
        rows = _rows_of_ends(library.ports.sides_of(name), standings)
        meetings.extend(_meetings(name, rows, copies))
    return Net(library, hands, meetings)


def _rows_of_ends(sides, standings):
    """For each side of a port, the indices of the standings with an end on it, in the order of the meetings."""
    rows = []
    start = 0
    for side in sides:
        refused = [at for at, standing in enumerate(standings) for end in refused_ends(standing) if end == side]
        row = refused + [at for at, standing in enumerate(standings) for end in open_ends(standing) if end == side]
        # The refused ends of a side stand behind those of the side ahead, so that they reach as many meetings as any.
        cut = len(row) - start
        rows.append(row[cut:] + row[:cut])
        if row:
            start = (start + len(refused)) % len(row)
    return rows


def _meetings(name, rows, copies):
    """The meetings of a port in all copies: each side has its hand in another copy, so that none meets itself."""
    meetings = []
    for place in range(len(rows[0])):
        for copy in range(copies):
            hands = [at * copies + (copy + end) % copies for end, at in enumerate(column(rows, place))]
            meetings.append((name, tuple(hands)))
    return meetings
