"""Bounds for all nets: by weights [161], and by how far standings are [162]."""

from nearhelp.checks import is_from
from nearhelp.errors import InvalidCount, InvalidWeights, NoNet
from nearhelp.joins import left
from nearhelp.ranks import far, farthest
from nearhelp.stills import is_weights


def round_least(library, many):
    """The least number of meetings that a round has if so many are ready."""
    if not is_from(many, 1):
        raise InvalidCount(many)
    return _divided_up(many, _most_beside(library))


def ready_least(library, weights, many):
    """The least number of meetings that are ready while so many hands of a net are not gone, if nobody stops."""
    _check(library, weights)
    if not is_from(many, 1):
        raise InvalidCount(many)
    return _divided_up(many, _greatest_port(weights))


def halving(library, weights):
    """So many rounds leave at most half of the ends that were due, if nobody stops."""
    _check(library, weights)
    return _divided_up(library.most * _most_beside(library) * _greatest_port(weights), min(_widths(library)))


def log_bound(library, weights, many):
    """Within so many rounds all meetings of a net of so many hands are held, if nobody stops."""
    half = halving(library, weights)
    if not is_from(many, 1):
        raise InvalidCount(many)
    return half * (library.most * many).bit_length()


def acts_within(library, standing):
    """Within so many rounds a hand with a standing acts, None if the standing is endless."""
    away = far(library, standing)
    return None if away is None else bound_by(library, away)


def wait_within(library):
    """So many rounds no meeting of any net waits longer than, None if a standing that is left is endless."""
    away = farthest(library)
    return None if away is None else library.most * bound_by(library, away)


def bound_by(library, away):
    """The rounds within which a hand acts whose standing is so far: T [8]."""
    more = (max(_widths(library)) - 1) * (library.most - 1)
    bound = more + 1
    for _ in range(away):
        bound = more * bound + 1
    return bound


def _check(library, weights):
    if not is_weights(library, weights):
        raise InvalidWeights(weights)
    if not left(library):
        raise NoNet()


def _widths(library):
    return [sides for _, sides in library.ports.kinds]


def _most_beside(library):
    """How many ready meetings, at most, have a common hand with one of them or are this one."""
    return 1 + max(_widths(library)) * (library.most - 1)


def _greatest_port(weights):
    return max([top for _, top in weights[1]])


def _divided_up(many, by):
    """The least integer that is at least one number divided by another one."""
    return -(-many // by)
