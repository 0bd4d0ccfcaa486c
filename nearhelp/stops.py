"""Whom hands that have stopped harm: how many [171], in which nets [172], and how far away [173]."""

from math import gcd

from nearhelp.bags import are_items, is_balanced, items_by, open_ends
from nearhelp.checks import is_from
from nearhelp.errors import InvalidCount, InvalidWeights, NoNet, Still
from nearhelp.exchanges import exchanged
from nearhelp.integers import lowest
from nearhelp.joins import left
from nearhelp.simplex import cheapest
from nearhelp.stills import is_weights, still
from nearhelp.trees import depths, refusers
from nearhelp.weighing import are_weights, has_refused_enough, still_rows, weights_by, worth


def harm(library):
    """Any harm: the least part of the hands that have stopped or wait for ever that must have stopped."""
    if not left(library):
        raise NoNet()
    counts = still(library)
    if counts is not None:
        raise Still(counts)
    ports = library.ports
    standings = library.standings()
    # A column is for the running ones of a standing, for the stopped ones, or for what a port has left over.
    rows = still_rows(ports, standings + [_closed(standing) for standing in standings])
    zeros, ones, rest = [0 for _ in standings], [1 for _ in standings], [0 for _ in ports.kinds]
    numbers, _, told, scale = cheapest(rows + [ones + ones + rest], [0 for _ in rows] + [1], zeros + ones + rest)
    terms = lowest(numbers[:2 * len(standings)])
    running, stopped = terms[:len(standings)], terms[len(standings):]
    top, bottom = lowest([sum(stopped), sum(terms)])
    weights = weights_by(ports, [-price for price in told[:-1]])
    return (top, bottom, items_by(standings, running), items_by(standings, stopped), scale, weights)


def is_harm(library, value):
    """Whether any value is a harm."""
    if not isinstance(value, tuple) or len(value) != 6:
        return False
    top, bottom, running, stopped, scale, weights = value
    if not all([is_from(number, 1) for number in (top, bottom, scale)]) or gcd(top, bottom) != 1:
        return False
    if not are_items(library, running) or not are_items(library, stopped) or not stopped:
        return False
    if not are_weights(library.ports, weights) or not _is_held(library.ports, list(running), list(stopped)):
        return False
    dead = sum([number for _, number in stopped])
    if bottom * dead != top * (dead + sum([number for _, number in running])):
        return False
    return all([_is_worth(library.ports, value, standing) for standing in library.standings()])


def most_held(library, many):
    """So many hands, at most, wait for ever if so many have stopped."""
    if not is_from(many, 0):
        raise InvalidCount(many)
    top, bottom = harm(library)[:2]
    return many * (bottom - top) // top


def stop_net(library, standing, depth):
    """Any net whose hand 0 has a standing and never acts, and the hands that have stopped, none of them that near."""
    tree = refusers(library, standing, depth)
    net, hands = exchanged(library, tree)
    stopped = []
    for hand, node, deep in zip(hands, tree, depths(tree)):
        if deep == depth:
            stopped.extend(_beside(net, hand, open_ends(node[0])))
    return (net, sorted(set(stopped)))


def stops_far(library, weights, many):
    """Each hand that waits for ever has one of so many stopped hands within so many ties."""
    if not is_weights(library, weights):
        raise InvalidWeights(weights)
    signs = dict(weights[0])
    ports = library.ports
    greatest = max([sum([max(0, signs[side]) for side in ports.sides_of(name)]) for name, _ in ports.kinds])
    return greatest * library.most * most_held(library, many).bit_length()


def _closed(standing):
    """What a hand with a standing has once it has stopped."""
    return (standing[0], tuple(sorted(set(standing[0]))))


def _is_held(ports, running, stopped):
    """Whether a net of these waits for ever in some number of copies."""
    items = running + [(_closed(standing), number) for standing, number in stopped]
    return is_balanced(ports, items) and has_refused_enough(ports, items)


def _is_worth(ports, value, standing):
    """Whether the weights of a value give a standing, running and stopped, at least what its part says."""
    top, bottom, scale, weights = value[0], value[1], value[4], value[5]
    if bottom * worth(ports, weights, standing) < top * scale:
        return False
    return bottom * (worth(ports, weights, _closed(standing)) + scale) >= top * scale


def _beside(net, hand, sides):
    """For each end of a hand on some sides, another hand of its meeting."""
    found = []
    for meeting in net.due(hand):
        ends = net.ends(meeting)
        if any([place == hand and side in sides for place, side in ends]):
            found.append([place for place, _ in ends if place != hand][0])
    return found
