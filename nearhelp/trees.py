"""Trees of refusers [151]: who holds up a hand, and who holds up these, so many times over."""

from nearhelp.bags import open_ends
from nearhelp.checks import is_between, is_index, is_list
from nearhelp.errors import InvalidDepth, Near, TooMany
from nearhelp.joins import left_with
from nearhelp.ranks import far_by, falls_of

DEEPEST = 5
MOST_NODES = 60


def refusers(library, standing, depth):
    """Any tree of refusers of a standing and a depth with as few nodes as any."""
    kept = _kept(library, standing, depth)
    ports = library.ports
    away = far_by(ports, falls_of(ports, kept), standing)
    if away is not None and away < depth:
        raise Near(away)
    levels = [{held: 1 for held in kept}]
    for _ in range(depth):
        levels.append(_counts_above(ports, kept, levels[-1]))
    if levels[-1][standing] > MOST_NODES:
        raise TooMany(levels[-1][standing])
    return _grown(ports, standing, [_best_by(counts) for counts in levels[:-1]])


def is_refusers(library, standing, depth, value):
    """Whether any value is a tree of refusers of a standing and a depth, with whatever number of nodes."""
    kept = _kept(library, standing, depth)
    if not is_list(value) or not value or value[0] != (standing, None, None, None):
        return False
    for index in range(1, len(value)):
        if not _is_node(library.ports, kept, value, index):
            return False
    wanted = [sorted(open_ends(node[0])) if deep < depth else [] for node, deep in zip(value, depths(value))]
    held = [[] for _ in value]
    for node in value[1:]:
        held[node[1]].append(node[2])
    return [sorted(sides) for sides in held] == wanted


def depths(tree):
    """The list of the depths of all nodes."""
    told = [0]
    for node in tree[1:]:
        told.append(told[node[1]] + 1)
    return told


def _kept(library, standing, depth):
    """The standings that are left, if the arguments are what they should be."""
    kept = left_with(library, standing)
    if not is_between(depth, 0, DEEPEST):
        raise InvalidDepth(depth)
    return kept


def _counts_above(ports, kept, counts):
    """The least numbers of nodes of trees one deeper, by standings, from those of trees of a depth."""
    best = _best_by(counts)
    above = {}
    for standing in kept:
        rows = [_best_beside(ports, best, side) for side in open_ends(standing)]
        if all([row for row in rows]):
            above[standing] = 1 + sum([row[0][0] for row in rows])
    return above


def _best_by(counts):
    """For each side that is refused, the least (number of nodes, standing) of those that refuse it."""
    best = {}
    for standing, count in counts.items():
        for side in standing[1]:
            best[side] = min(best.get(side, (count, standing)), (count, standing))
    return best


def _best_beside(ports, best, side):
    """The least (number of nodes, standing, other side), in a list, that refuses another side, or an empty list."""
    return sorted([best[by] + (by,) for by in ports.others(side) if by in best])[:1]


def _grown(ports, standing, levels):
    """A tree whose nodes have the best children that each level, the lowest one first, has for them."""
    tree = [(standing, None, None, None)]
    start = 0
    for best in reversed(levels):
        end = len(tree)
        for parent in range(start, end):
            for at in open_ends(tree[parent][0]):
                _, child, by = _best_beside(ports, best, at)[0]
                tree.append((child, parent, at, by))
        start = end
    return tree


def _is_node(ports, kept, tree, index):
    """Whether a node of a tree, of which all earlier ones are right, has a parent whose open end it refuses."""
    node = tree[index]
    if not isinstance(node, tuple) or len(node) != 4:
        return False
    standing, parent, at, by = node
    if standing not in kept or not is_index(parent, index) or at not in open_ends(tree[parent][0]):
        return False
    return by in ports.others(at) and by in standing[1]
