"""Standings, bags of them [6], and the rows of tasks that tell of bags.

A bag is told by items: tuples (standing, number).
"""

from nearhelp.checks import are_different, are_told, is_from, is_list, is_pair


def open_ends(standing):
    """The list of the sides of the open ends of a standing."""
    lot, closed = standing
    return [side for side in lot if side not in closed]


def refused_ends(standing):
    """The list of the sides of the refused ends of a standing."""
    lot, closed = standing
    return [side for side in lot if side in closed]


def is_blocked(ports, standing, sides):
    """Whether each open end of a standing has another side of its port among some sides."""
    return are_blocked(ports, open_ends(standing), sides)


def are_blocked(ports, opens, sides):
    """Whether each open side has another side of its port among some sides."""
    for side in opens:
        if not any([other in sides for other in ports.others(side)]):
            return False
    return True


def is_keeping(ports, standing, ranks):
    """Whether an open end of a standing has other sides of lesser ranks, by sides, than all sides that it refuses."""
    return any([_are_lesser(ranks, ports.others(side), standing[1]) for side in open_ends(standing)])


def are_ranks(ports, value):
    """Whether a value is told ranks [181]."""
    sides = ports.sides()
    return are_told(value, sides) and all([0 <= rank < len(sides) for _, rank in value])


def are_items(library, value):
    """Whether a value is a list of tuples (standing, number) with ascending standings and numbers from 1 on."""
    if not is_list(value) or not all([is_pair(item) and is_from(item[1], 1) for item in value]):
        return False
    return are_ascending([standing for standing, _ in value], library.standings())


def are_ascending(items, known):
    """Whether items are different ones of those that are known, and in the order of these."""
    if not all([item in known for item in items]):
        return False
    places = [known.index(item) for item in items]
    return are_different(places) and places == sorted(places)


def items_by(standings, numbers):
    """The items of the standings whose numbers are above 0."""
    return [(standing, number) for standing, number in zip(standings, numbers) if number > 0]


def count_ends(items, side):
    """How many ends of a bag are on a side."""
    return sum([number * standing[0].count(side) for standing, number in items])


def count_refused(items, sides):
    """How many refused ends of a bag are on some sides."""
    return sum([number for standing, number in items for side in refused_ends(standing) if side in sides])


def is_balanced(ports, items):
    """Whether a bag has equally many ends on all sides of each port."""
    for name, _ in ports.kinds:
        sides = ports.sides_of(name)
        if any([count_ends(items, side) != count_ends(items, sides[0]) for side in sides]):
            return False
    return True


def balance_rows(ports, standings):
    """Rows with a column for each standing: they add up to 0 for the numbers of a balanced bag, and only for these."""
    rows = []
    for name, _ in ports.kinds:
        sides = ports.sides_of(name)
        first = [lot.count(sides[0]) for lot, _ in standings]
        rows.extend([[lot.count(side) - many for (lot, _), many in zip(standings, first)] for side in sides[1:]])
    return rows


def told_signs(ports, told):
    """The integers of all sides, by sides, by which standings add up to what integers of the rows of balance tell."""
    rest = list(told)
    signs = {}
    for name, _ in ports.kinds:
        sides = ports.sides_of(name)
        for side in sides[1:]:
            signs[side] = rest.pop(0)
        signs[sides[0]] = -sum([signs[side] for side in sides[1:]])
    return signs


def listed(names, told):
    """The list of the tuples of some names and what is told of each."""
    return [(name, told[name]) for name in names]


def are_signs(ports, value):
    """Whether a value is signs [122]."""
    if not are_told(value, ports.sides()):
        return False
    signs = dict(value)
    return all([sum([signs[side] for side in ports.sides_of(name)]) == 0 for name, _ in ports.kinds])


def sign_of(told, standing):
    """The sum of the integers of the sides of a standing's ends, told by a list of tuples (side, integer)."""
    signs = dict(told)
    return sum([signs[side] for side in standing[0]])


def _are_lesser(ranks, sides, others):
    return all([ranks[side] < ranks[other] for side in sides for other in others])
