"""Weights, the values that they give [131], and the rows of tasks that tell what refused ends can hold up.

A standing all of whose ends are refused, whether or not a process has it, stands for a hand that has stopped.
"""

from nearhelp.bags import balance_rows, count_ends, count_refused, listed, refused_ends, sign_of, told_signs
from nearhelp.checks import are_told, is_pair


def are_weights(ports, value):
    """Whether any value is weights, whatever values they give to standings."""
    if not is_pair(value) or not are_told(value[0], ports.sides()):
        return False
    if not are_told(value[1], [name for name, _ in ports.kinds]):
        return False
    signs = dict(value[0])
    for name, top in value[1]:
        if top < max(0, sum([signs[side] for side in ports.sides_of(name)])):
            return False
    return True


def worth(ports, weights, standing):
    """The value of a standing by weights."""
    tops = dict(weights[1])
    return sign_of(weights[0], standing) - sum([tops[ports.kind(side)] for side in refused_ends(standing)])


def has_refused_enough(ports, items):
    """Whether a bag has, for each port, at least as many refused ends as ends on one of its sides."""
    for name, _ in ports.kinds:
        sides = ports.sides_of(name)
        if count_refused(items, sides) < count_ends(items, sides[0]):
            return False
    return True


def still_rows(ports, standings):
    """The rows of balance, and one for each port: its ends on one side less its refused ends, and what is left over.

    A column is for a standing, and behind these for what a port has left over. The integers of these rows are weights
    in a way: those of the ports are told as they are, and those of the sides, as signs, are raised by them.
    """
    rows = [row + [0 for _ in ports.kinds] for row in balance_rows(ports, standings)]
    closed = [refused_ends(standing) for standing in standings]
    for name, _ in ports.kinds:
        sides = ports.sides_of(name)
        row = [lot.count(sides[0]) - _count_of(ends, sides) for (lot, _), ends in zip(standings, closed)]
        rows.append(row + [1 if other == name else 0 for other, _ in ports.kinds])
    return rows


def weights_by(ports, told):
    """Weights by which standings have the values that the integers of these rows tell."""
    names = [name for name, _ in ports.kinds]
    balance = len(ports.sides()) - len(names)
    signs = told_signs(ports, told[:balance])
    tops = {name: term for name, term in zip(names, told[balance:])}
    for name in names:
        signs[ports.sides_of(name)[0]] += tops[name]
    return (listed(ports.sides(), signs), listed(names, tops))


def _count_of(ends, sides):
    return len([end for end in ends if end in sides])
