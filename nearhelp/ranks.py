"""Falls and ranks of sides [141], and how far standings are [142]."""

from nearhelp.bags import is_blocked
from nearhelp.errors import NoNet
from nearhelp.joins import left, left_with


def falls(library):
    """The list of R(0), R(1) and so on, up to the first one that is equal to the next one."""
    return falls_of(library.ports, left(library))


def ranks(library):
    """The list of the ranks of all sides."""
    return ranks_by(library.ports, falls(library))


def far(library, standing):
    """How far a standing that is left is, None if it is endless."""
    standings = left_with(library, standing)
    return far_by(library.ports, falls_of(library.ports, standings), standing)


def farthest(library):
    """How far the standings that are left are at most, None if one of them is endless."""
    standings = left(library)
    if not standings:
        raise NoNet()
    told = falls_of(library.ports, standings)
    found = [far_by(library.ports, told, standing) for standing in standings]
    return None if None in found else max(found)


def falls_of(ports, standings):
    """The falls of a library in which these standings are left."""
    told = [_refused_sides(standings)]
    while True:
        following = _refused_sides([standing for standing in standings if is_blocked(ports, standing, told[-1])])
        if following == told[-1]:
            return told
        told.append(following)


def ranks_by(ports, told):
    """The ranks of all sides by falls."""
    return [(side, _first_index([side not in fall for fall in told])) for side in ports.sides()]


def far_by(ports, told, standing):
    """How far a standing is by falls, None if it is endless."""
    return _first_index([not is_blocked(ports, standing, fall) for fall in told])


def _refused_sides(standings):
    return tuple(sorted({side for _, closed in standings for side in closed}))


def _first_index(answers):
    """The index of the first True, None if there is none."""
    return answers.index(True) if True in answers else None
