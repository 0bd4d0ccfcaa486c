"""What is a right answer [151] to [193], told a second time, by the words of the points."""

import itertools

from tests import judges


# Stage 14


def opens(standing):
    lot, closed = standing
    return [side for side in lot if side not in closed]


def is_refusers(library, standing, depth, value, left):
    """Whether a value is a tree of refusers of a library in which just these standings are left."""
    if not judges.rowlike(value) or not value or not all(judges.pair(node, 4) for node in value):
        return False
    if repr(value[0]) != repr((standing, None, None, None)):
        return False
    deep = [0]
    for index, (held, parent, at, by) in enumerate(value):
        if index == 0:
            continue
        if repr(held) not in map(repr, left) or not judges.whole(parent, 0) or parent >= index:
            return False
        above = value[parent][0]
        if type(at) is not str or type(by) is not str or at not in opens(above) or by not in held[1]:
            return False
        if by not in judges.other_sides(library, at):
            return False
        deep.append(deep[parent] + 1)
    for index, node in enumerate(value):
        children = [other[2] for other in value[1:] if other[1] == index]
        if sorted(children) != (sorted(opens(node[0])) if deep[index] < depth else []):
            return False
    return True


def least_nodes(library, left, standing, depth, known=None):
    """The least number of nodes of a tree, by trying all refusers at each open end; None if there is no tree."""
    known = {} if known is None else known
    key = (standing, depth)
    if key not in known:
        many = 1
        for side in opens(standing) if depth > 0 else []:
            wanted = judges.other_sides(library, side)
            found = [least_nodes(library, left, row, depth - 1, known) for row in left if set(row[1]) & set(wanted)]
            found = [count for count in found if count is not None]
            many = None if many is None or not found else many + min(found)
        known[key] = many
    return known[key]


def all_plain(library):
    return all(((side,), ()) in library.standings() for side in library.ports.sides())


# Stage 16


def stopped_value(library, weights, standing):
    tops = dict(weights[1])
    return sum(dict(weights[0])[side] - tops[side[:-1]] for side in standing[0])


def is_harm(library, value):
    if not judges.pair(value, 6):
        return False
    top, bottom, running, stopped, scale, weights = value
    if not all(judges.whole(number, 1) for number in [top, bottom, scale]):
        return False
    if any(top % by == 0 and bottom % by == 0 for by in range(2, min(top, bottom, 1000) + 1)):
        return False
    if not judges.is_items(library, running) or not judges.is_items(library, stopped) or len(stopped) == 0:
        return False
    both = list(running) + list(stopped)
    for sides in judges.port_sides(library).values():
        ends = [judges.ends(both, side) for side in sides]
        held = judges.refused(running, sides) + sum(judges.ends(stopped, side) for side in sides)
        if len(set(ends)) > 1 or held < ends[0]:
            return False
    dead, many = sum(number for _, number in stopped), sum(number for _, number in both)
    if dead * bottom != many * top or not judges.is_any_weights(library, weights):
        return False
    for standing in library.standings():
        if bottom * judges.value_of(library, weights, standing) < top * scale:
            return False
        if bottom * (stopped_value(library, weights, standing) + scale) < top * scale:
            return False
    return True


# Stage 17


def is_ranks(ports, value):
    sides = sorted(ports.sides())
    return judges.is_told(value, sides, 0) and all(rank < len(sides) for _, rank in value)


def keeps(ports, standing, ranks):
    """Whether a standing keeps told ranks, by the words of the point."""
    ends = opens(standing)
    if not standing[1]:
        return len(ends) > 0
    told = dict(ranks)
    for end in ends:
        others = [other for other in ports.sides() if other[:-1] == end[:-1] and other != end]
        if all(told[other] < told[side] for other in others for side in standing[1]):
            return True
    return False


def all_ranks(ports):
    """All told ranks of ports."""
    sides = sorted(ports.sides())
    for row in itertools.product(range(len(sides)), repeat=len(sides)):
        yield list(zip(sides, row))


# Stage 18


def is_rules(ports, value, most=60):
    if not judges.rowlike(value) or len(value) > most:
        return False
    sides = ports.sides()
    for rule in value:
        if not judges.pair(rule) or type(rule[0]) is not str or rule[0] not in sides or type(rule[1]) is not tuple:
            return False
        if len(rule[1]) > 3 or any(type(side) is not str or side not in sides for side in rule[1]):
            return False
        if list(rule[1]) != sorted(set(rule[1])) or rule[0] in rule[1]:
            return False
    return True


def is_held(ports, opens, sides):
    """Whether each open side has another side of its port among some sides."""
    wide = {name: {f"{name}{at}" for at in range(1, many + 1)} for name, many in ports.kinds}
    return all((wide[end[:-1]] - {end}) & set(sides) for end in opens)


def is_kept(ports, rules, facts, sides):
    """Whether each of some sides is a fact or the side of a rule that these hold up."""
    return all(side in facts or any(own == side and is_held(ports, opens, sides) for own, opens in rules) for side in sides)


def kept_up(ports, rules, facts):
    """By trying all sets of sides: all that some set has that keeps itself up; such sets together keep themselves up."""
    found, some = set(), sorted({side for side, _ in rules} | set(facts))
    for many in range(len(some) + 1):
        for sides in itertools.combinations(some, many):
            if is_kept(ports, rules, facts, sides):
                found |= set(sides)
    return tuple(sorted(found))


def rule_ranks(ports, rules):
    falls = [{side for side, _ in rules}]
    for _ in ports.sides():
        falls.append({side for side, opens in rules if is_held(ports, opens, falls[-1])})
    return [(side, next((at for at, row in enumerate(falls) if side not in row), None)) for side in sorted(ports.sides())]


def may_stand(ports, rules, instead):
    """By trying all choices and all sets of sides."""
    for side, opens in rules:
        others = [[other for other in ports.sides() if other[:-1] == end[:-1] and other != end] for end in opens]
        for chosen in itertools.product(*others):
            kept = kept_up(ports, instead, set(chosen))
            if not any(own == side and is_held(ports, ends, kept) for own, ends in instead):
                return False
    return True


def is_tower(ports, rules, instead, value):
    if not judges.pair(value, 3):
        return False
    wide, further, side = value
    if type(wide).__name__ != "Ports" or type(side) is not str or side not in ports.sides():
        return False
    if wide.kinds[:len(ports.kinds)] != ports.kinds or len(wide.kinds) == len(ports.kinds):
        return False
    if not is_rules(wide, further, 200):
        return False
    low = dict(rule_ranks(wide, [*instead, *further]))
    high = dict(rule_ranks(wide, [*rules, *further]))
    return None not in low.values() and (high[side] is None or high[side] > low[side])
