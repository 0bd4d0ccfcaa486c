"""Rules of processes [191], which rules may stand for others [192], and towers, which show that some may not [193]."""

from nearhelp.bags import are_ascending, are_blocked, open_ends
from nearhelp.books import Book
from nearhelp.checks import LETTERS, are_different, is_list, is_pair
from nearhelp.errors import InvalidFacts, InvalidRules, KeptUp, MayStand
from nearhelp.ports import Ports

MOST_RULES = 60
MOST_FURTHER = 200
MOST_OPENS = 3


def rules_of(process):
    """The ascending list of the different rules of the standings of the book of a process."""
    rules = []
    for standing in Book(process).standings():
        opens = tuple(sorted(set(open_ends(standing))))
        rules.extend([(side, opens) for side in standing[1]])
    return sorted(set(rules))


def kept_up(ports, rules, facts):
    """The ascending tuple of as many sides as possible that are facts, or that rules hold up by one another."""
    _check(ports, rules)
    if not is_list(facts) or not all([ports.has(side) for side in facts]) or not are_different(facts):
        raise InvalidFacts(facts)
    return _falls(ports, rules, facts)[-1]


def rule_ranks(ports, rules):
    """The list of the ranks of all sides by rules."""
    _check(ports, rules)
    return _ranks(ports, rules)


def may_stand(ports, rules, instead):
    """Whether rules may stand for others, whatever further rules are put beside."""
    _check_both(ports, rules, instead)
    return _missing(ports, rules, instead) is None


def tower(ports, rules, instead):
    """Any wider ports, further rules, and a side that these lift higher with the rules than with the others.

    Behind what holds up the chosen sides by themselves stands a new port: as long as an open side is blocked that the
    others, with the chosen sides, block no longer at the end, so are these sides, and the rule has them all. Then all
    falls, that of the others for the chosen side first, as these hold it up no longer at the end.
    """
    _check_both(ports, rules, instead)
    missing = _missing(ports, rules, instead)
    if missing is None:
        raise MayStand()
    side, chosen = missing
    name = _new_name(ports)
    # The others are put beside the rules, so that these hold up at least as much.
    further = list(instead) + [(other, (f"{name}1",)) for other in chosen]
    last = _last_blocked(ports, _falls(ports, instead, chosen))
    if last is not None:
        further.append((f"{name}2", (last,)))
    return (Ports(list(ports.kinds) + [(name, 2)]), further, side)


def is_tower(ports, rules, instead, value):
    """Whether any value is wider ports, further rules and a side like these."""
    _check_both(ports, rules, instead)
    if not isinstance(value, tuple) or len(value) != 3 or not isinstance(value[0], Ports):
        return False
    wide, further, side = value
    many = len(ports.kinds)
    if len(wide.kinds) <= many or wide.kinds[:many] != ports.kinds or not ports.has(side):
        return False
    if not _are_rules(wide, further, MOST_FURTHER):
        return False
    low = dict(_ranks(wide, list(instead) + list(further)))
    high = dict(_ranks(wide, list(rules) + list(further)))
    if None in list(low.values()):
        return False
    return high[side] is None or high[side] > low[side]


def _check(ports, rules):
    if not _are_rules(ports, rules, MOST_RULES):
        raise InvalidRules(rules)


def _check_both(ports, rules, instead):
    _check(ports, rules)
    _check(ports, instead)
    kept = _falls(ports, instead, [])[-1]
    if kept:
        raise KeptUp(kept)


def _are_rules(ports, value, most):
    return is_list(value) and len(value) <= most and all([_is_rule(ports, item) for item in value])


def _is_rule(ports, value):
    if not is_pair(value) or not ports.has(value[0]) or not isinstance(value[1], tuple) or len(value[1]) > MOST_OPENS:
        return False
    return are_ascending(value[1], ports.sides()) and value[0] not in value[1]


def _falls(ports, rules, facts):
    """The sides that are facts or sides of rules, then those that facts and rules hold up by these, and so on."""
    told = [_sorted_sides(rules, facts)]
    while True:
        following = _sorted_sides([rule for rule in rules if are_blocked(ports, rule[1], told[-1])], facts)
        if following == told[-1]:
            return told
        told.append(following)


def _sorted_sides(rules, facts):
    return tuple(sorted(set([side for side, _ in rules] + list(facts))))


def _ranks(ports, rules):
    falls = _falls(ports, rules, [])
    ranks = []
    for side in ports.sides():
        found = [at for at, fall in enumerate(falls) if side not in fall]
        ranks.append((side, found[0] if found else None))
    return ranks


def _missing(ports, rules, instead):
    """The side of a rule, and sides chosen for its opens with which the others do not hold it up, or None."""
    for side, opens in rules:
        own = [other for place, other in instead if place == side]
        for chosen in _choices(ports, opens):
            facts = sorted(set(chosen))
            kept = _falls(ports, instead, facts)[-1]
            if not any([are_blocked(ports, other, kept) for other in own]):
                return (side, facts)
    return None


def _choices(ports, opens):
    """All choices of another side of its port for each open side."""
    choices = [()]
    for end in opens:
        choices = [chosen + (other,) for chosen in choices for other in ports.others(end)]
    return choices


def _last_blocked(ports, falls):
    """An open side that is blocked as long as anything that falls blocks one, None if nothing that falls does."""
    for fall, following in reversed(list(zip(falls, falls[1:]))):
        for side in ports.sides():
            if are_blocked(ports, [side], fall) and not are_blocked(ports, [side], following):
                return side
    return None


def _new_name(ports):
    """A name of a port that is not there."""
    names = [name for name, _ in ports.kinds]
    return [letter for letter in LETTERS if letter not in names][0]
