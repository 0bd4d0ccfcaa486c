"""What is a right answer [111] to [143], told a second time, by the words of the points."""

from fractions import Fraction


def whole(value, low=None):
    return type(value) is int and (low is None or value >= low)


def rowlike(value):
    return type(value) in (list, tuple)


def wholes(value, many, low=None):
    return rowlike(value) and len(value) == many and all(whole(item, low) for item in value)


def pair(value, many=2):
    return type(value) is tuple and len(value) == many


def columns(rows):
    return list(zip(*rows))


def dot(first, second):
    return sum(a * b for a, b in zip(first, second, strict=True))


# Stage 10


def is_solution(rows, sums, value):
    if not pair(value) or not wholes(value[0], len(rows[0]), 0) or not whole(value[1], 1):
        return False
    return all(Fraction(dot(row, value[0]), value[1]) == total for row, total in zip(rows, sums, strict=True))


def is_denial(rows, sums, value):
    if not wholes(value, len(rows)):
        return False
    return all(dot(column, value) >= 0 for column in columns(rows)) and dot(sums, value) < 0


def is_strict(rows, value):
    if not pair(value) or not wholes(value[0], len(rows[0]), 0) or not wholes(value[1], len(rows)):
        return False
    if any(dot(row, value[0]) != 0 for row in rows):
        return False
    for number, column in zip(value[0], columns(rows), strict=True):
        worth = dot(column, value[1])
        if number > 0 and worth != 0 or number == 0 and worth <= 0:
            return False
    return True


def is_least(rows, sums, costs, value):
    if not pair(value, 4) or not is_solution(rows, sums, value[:2]):
        return False
    numbers, bottom, told, scale = value
    if not wholes(told, len(rows)) or not whole(scale, 1):
        return False
    if any(dot(column, told) > scale * cost for column, cost in zip(columns(rows), costs, strict=True)):
        return False
    return dot(sums, told) == scale * Fraction(dot(numbers, costs), bottom)


# Stage 11


def is_standing(library, value):
    return any(repr(value) == repr(standing) for standing in library.standings())


def is_items(library, value):
    if not rowlike(value):
        return False
    for item in value:
        if not pair(item) or not is_standing(library, item[0]) or not whole(item[1], 1):
            return False
    return all(first[0] < second[0] for first, second in zip(value, value[1:]))


def port_sides(library):
    """The sides of each port, by the names of the ports."""
    return {name: [f"{name}{at}" for at in range(1, sides + 1)] for name, sides in library.ports.kinds}


def ends(value, side):
    return sum(number * lot.count(side) for (lot, _), number in value)


def refused(value, sides):
    return sum(number * len([side for side in lot if side in closed and side in sides]) for (lot, closed), number in value)


def is_counts(library, value):
    if not is_items(library, value):
        return False
    return all(len({ends(value, side) for side in sides}) == 1 for sides in port_sides(library).values())


def is_told(value, names, low=None):
    """Whether a value is a list of a tuple (name, integer) for each name."""
    if not rowlike(value) or len(value) != len(names):
        return False
    return all(pair(item) and repr(item[0]) == repr(name) and whole(item[1], low) for item, name in zip(value, names))


def is_signs(library, value):
    if not is_told(value, sorted(library.ports.sides())):
        return False
    return all(sum(dict(value)[side] for side in sides) == 0 for sides in port_sides(library).values())


def is_joined(library, value):
    if not pair(value) or not is_counts(library, value[0]) or not is_signs(library, value[1]):
        return False
    for standing in library.standings():
        sign = sum(dict(value[1])[side] for side in standing[0])
        if sign < 0 or (standing in dict(value[0])) != (sign == 0):
            return False
    return True


# Stage 12


def has_refused(library, counts):
    return all(refused(counts, sides) >= ends(counts, sides[0]) for sides in port_sides(library).values())


def is_still(library, value):
    return is_counts(library, value) and value not in ([], ()) and has_refused(library, value)


def is_any_weights(library, value):
    rows = port_sides(library)
    if not pair(value) or not is_told(value[0], sorted(library.ports.sides())) or not is_told(value[1], list(rows), 0):
        return False
    return all(dict(value[1])[name] >= sum(dict(value[0])[side] for side in rows[name]) for name in rows)


def value_of(library, value, standing):
    lot, closed = standing
    tops = dict(value[1])
    return sum(dict(value[0])[side] - (tops[side[:-1]] if side in closed else 0) for side in lot)


def is_weights(library, value):
    return is_any_weights(library, value) and all(value_of(library, value, row) >= 1 for row in library.standings())


def is_ever(library, value):
    if not pair(value) or not is_any_weights(library, value[1]):
        return False
    if not is_counts(library, value[0]) or len(value[0]) and not is_still(library, value[0]):
        return False
    for standing in library.standings():
        worth = value_of(library, value[1], standing)
        if worth < 0 or (standing in dict(value[0])) != (worth == 0):
            return False
    return True


# Stage 13


def other_sides(library, side):
    return [other for other in port_sides(library)[side[:-1]] if other != side]


def is_blocked(library, standing, sides):
    """Whether each open end of a standing has another side of its port among some sides."""
    lot, closed = standing
    return all(set(other_sides(library, side)) & set(sides) for side in lot if side not in closed)


def falls(library, left):
    """R(0), R(1) and so on, as many as there are sides, and one more."""
    told = [{side for _, closed in left for side in closed}]
    for _ in library.ports.sides():
        told.append({side for row in left if is_blocked(library, row, told[-1]) for side in row[1]})
    return told


def keeps(library, standing, ranks):
    lot, closed = standing
    rows = [[ranks[other] for other in other_sides(library, side)] for side in lot if side not in closed]
    return any(all(rank < ranks[side] for rank in row for side in closed) for row in rows)


def is_verdict(library, value, left):
    """Whether a value is a verdict on a library in which just these standings are left."""
    if not left or type(value) is not tuple or not value or type(value[0]) is not str:
        return False
    if value[0] == "ever":
        return pair(value) and is_still(library, value[1])
    if value[0] == "logarithm":
        return pair(value, 3) and is_weights(library, value[1]) and is_kept(library, value[2])
    return value[0] == "number" and pair(value, 3) and are_kept_ranks(library, value[1], value[2])


def is_kept(library, value):
    if not pair(value, 3) or not is_counts(library, value[0]) or not rowlike(value[1]):
        return False
    counts, rows, last = value
    if not all(pair(row) and type(row[0]) is str and is_standing(library, row[1]) for row in rows):
        return False
    if not is_standing(library, last) or not all(row in dict(counts) for row in [last] + [row for _, row in rows]):
        return False
    sides = [side for side, _ in rows]
    if sides != sorted(set(sides)) or not all(side in row[1] for side, row in rows):
        return False
    return all(is_blocked(library, row, sides) for row in [last] + [row for _, row in rows])


def are_kept_ranks(library, ranks, signs):
    sides = sorted(library.ports.sides())
    if not is_told(ranks, sides, 0) or any(rank >= len(sides) for _, rank in ranks) or not is_signs(library, signs):
        return False
    for standing in library.standings():
        sign = sum(dict(signs)[side] for side in standing[0])
        if sign < 0 or sign == 0 and not keeps(library, standing, dict(ranks)):
            return False
    return True


# Values with one place changed


def near_values(item):
    """Other values for one that stands at some place of an answer."""
    if type(item) is int:
        return [item + 1, item - 1, -item - 1, 2 * item + 3, 10 ** 399, True, False, None, str(item), (item,), [item]]
    if type(item) is str:
        return ["", item + "1", "p1", "p2", "p", None, 1, (item,)]
    if type(item) in (list, tuple):
        found = [item[:-1], item[1:], item + item[-1:], item[::-1], None, {}, 0, "", [item], (item,)]
        found += [list(item) if type(item) is tuple else tuple(item)]
        return [value for value in found if repr(value) != repr(item)]
    return [None, 0, "", [], ()] if item is not None else [0, "", [], ()]


def one_place_changed(value):
    """All copies of an answer with one place changed."""
    out = near_values(value)
    if type(value) in (list, tuple):
        for at, item in enumerate(value):
            for other in one_place_changed(item):
                out.append(type(value)(list(value[:at]) + [other] + list(value[at + 1:])))
    return out


def as_tuples(value):
    """The same answer with a tuple in the place of each list."""
    return tuple(as_tuples(item) for item in value) if type(value) in (list, tuple) else value
