"""What is a right answer [151] to [193], told a second time, by the words of the points."""

import itertools

from tests import judges


# Stage 14


def opens(standing):
    lot, closed = standing
    return [side for side in lot if side not in closed]


def is_refusers(library, standing, depth, value, left):
    """Whether a value is a tree of refusers of a library in which just these standings are left."""
    if not judges.rowlike(value) or not value or not all(judges.pair(node, 4) for node in value):
        return False
    if repr(value[0]) != repr((standing, None, None, None)):
        return False
    deep = [0]
    for index, (held, parent, at, by) in enumerate(value):
        if index == 0:
            continue
        if repr(held) not in map(repr, left) or not judges.whole(parent, 0) or parent >= index:
            return False
        above = value[parent][0]
        if type(at) is not str or type(by) is not str or at not in opens(above) or by not in held[1]:
            return False
        if by not in judges.other_sides(library, at):
            return False
        deep.append(deep[parent] + 1)
    for index, node in enumerate(value):
        children = [other[2] for other in value[1:] if other[1] == index]
        if sorted(children) != (sorted(opens(node[0])) if deep[index] < depth else []):
            return False
    return True


def least_nodes(library, left, standing, depth, known=None):
    """The least number of nodes of a tree, by trying all refusers at each open end; None if there is no tree."""
    known = {} if known is None else known
    key = (standing, depth)
    if key not in known:
        many = 1
        for side in opens(standing) if depth > 0 else []:
            wanted = judges.other_sides(library, side)
            found = [least_nodes(library, left, row, depth - 1, known) for row in left if set(row[1]) & set(wanted)]
            found = [count for count in found if count is not None]
            many = None if many is None or not found else many + min(found)
        known[key] = many
    return known[key]


def all_plain(library):
    return all(((side,), ()) in library.standings() for side in library.ports.sides())


# Stage 16


def stopped_value(library, weights, standing):
    tops = dict(weights[1])
    return sum(dict(weights[0])[side] - tops[side[:-1]] for side in standing[0])


def is_harm(library, value):
    if not judges.pair(value, 6):
        return False
    top, bottom, running, stopped, scale, weights = value
    if not all(judges.whole(number, 1) for number in [top, bottom, scale]):
        return False
    if any(top % by == 0 and bottom % by == 0 for by in range(2, min(top, bottom, 1000) + 1)):
        return False
    if not judges.is_items(library, running) or not judges.is_items(library, stopped) or len(stopped) == 0:
        return False
    both = list(running) + list(stopped)
    for sides in judges.port_sides(library).values():
        ends = [judges.ends(both, side) for side in sides]
        held = judges.refused(running, sides) + sum(judges.ends(stopped, side) for side in sides)
        if len(set(ends)) > 1 or held < ends[0]:
            return False
    dead, many = sum(number for _, number in stopped), sum(number for _, number in both)
    if dead * bottom != many * top or not judges.is_any_weights(library, weights):
        return False
    for standing in library.standings():
        if bottom * judges.value_of(library, weights, standing) < top * scale:
            return False
        if bottom * (stopped_value(library, weights, standing) + scale) < top * scale:
            return False
    return True


# Stage 17


def is_ranks(ports, value):
    sides = sorted(ports.sides())
    return judges.is_told(value, sides, 0) and all(rank < len(sides) for _, rank in value)


def keeps(ports, standing, ranks):
    """Whether a standing keeps told ranks, by the words of the point."""
    ends = opens(standing)
    if not standing[1]:
        return len(ends) > 0
    told = dict(ranks)
    for end in ends:
        others = [other for other in ports.sides() if other[:-1] == end[:-1] and other != end]
        if all(told[other] < told[side] for other in others for side in standing[1]):
            return True
    return False


def all_ranks(ports):
    """All told ranks of ports."""
    sides = sorted(ports.sides())
    for row in itertools.product(range(len(sides)), repeat=len(sides)):
        yield list(zip(sides, row))
