"""The three answers, each with what shows that it is right [143]."""

from nearhelp.bags import are_ascending, are_ranks, are_signs, is_blocked, is_keeping, sign_of
from nearhelp.checks import is_list, is_pair
from nearhelp.counts import is_counts
from nearhelp.errors import NoNet
from nearhelp.joins import joined, left
from nearhelp.ranks import falls_of, ranks_by
from nearhelp.stills import is_still, is_weights, still_or_weights


def verdict(library):
    """Any verdict on a library."""
    counts, signs = joined(library)
    if not counts:
        raise NoNet()
    stands, given = still_or_weights(library)
    if stands is not None:
        return ("ever", stands)
    standings = [standing for standing, _ in counts]
    falls = falls_of(library.ports, standings)
    endless = [standing for standing in standings if is_blocked(library.ports, standing, falls[-1])]
    if endless:
        rows = [(side, _first_refusing(endless, side)) for side in falls[-1]]
        return ("logarithm", given, (counts, rows, endless[0]))
    return ("number", ranks_by(library.ports, falls), signs)


def is_verdict(library, value):
    """Whether any value is a verdict on a library; there is none if no standing is left."""
    if not isinstance(value, tuple) or not value:
        return False
    if value[0] == "ever":
        return len(value) == 2 and is_still(library, value[1])
    if len(value) != 3:
        return False
    if value[0] == "logarithm":
        return is_weights(library, value[1]) and _is_kept(library, value[2])
    return value[0] == "number" and _are_kept_ranks(library, value[1], value[2]) and len(left(library)) > 0


def _first_refusing(standings, side):
    return [standing for standing in standings if side in standing[1]][0]


def _is_kept(library, value):
    """Whether a value is counts, standings that refuse sides, and a last standing, of which none ever has to act."""
    if not isinstance(value, tuple) or len(value) != 3 or not is_counts(library, value[0]):
        return False
    counts, rows, last = value
    counted = [standing for standing, _ in counts]
    if not is_list(rows) or not all([_is_row(counted, row) for row in rows]) or last not in counted:
        return False
    sides = [side for side, _ in rows]
    if not are_ascending(sides, library.ports.sides()):
        return False
    return all([is_blocked(library.ports, standing, sides) for standing in [last] + [told for _, told in rows]])


def _is_row(counted, value):
    return is_pair(value) and value[1] in counted and value[0] in value[1][1]


def _are_kept_ranks(library, told, signs):
    """Whether values are integers of all sides and signs by which all standings without a sign keep the integers."""
    ports = library.ports
    if not are_ranks(ports, told) or not are_signs(ports, signs):
        return False
    ranks = dict(told)
    signed = [(standing, sign_of(signs, standing)) for standing in library.standings()]
    return all([sign > 0 or (sign == 0 and is_keeping(ports, standing, ranks)) for standing, sign in signed])
