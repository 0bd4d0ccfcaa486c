"""Hands at rest: their first states [51], what they refuse [52] and what a meeting makes of them [53]."""

from nearhelp.checks import is_index
from nearhelp.errors import InvalidIndex, InvalidState, NotDue, Refused
from nearhelp.states import changed, holds, is_state
from nearhelp.words import CHANGING


def begin_state(process, index):
    """The state in which a hand begins by the beginning with an index."""
    if not is_index(index, len(process.begins)):
        raise InvalidIndex(index)
    return (tuple([0 for _ in process.numbers]), tuple(sorted(process.begins[index])))


def refused(process, state):
    """The ascending tuple of the sides that are refused in a state."""
    if not is_state(process, state):
        raise InvalidState(state)
    due = [item for item in process.refuses if item[0] in state[1]]
    return tuple(sorted({side for side, condition in due if holds(process, state, condition)}))


def standing(process, state):
    """The tuple of the lot and the refused sides in a state with something due."""
    if not is_state(process, state) or not state[1]:
        raise InvalidState(state)
    return (state[1], refused(process, state))


def step(process, state, side):
    """The state behind a meeting that is held at a side."""
    if not is_state(process, state):
        raise InvalidState(state)
    values, lot = state
    if side not in lot:
        raise NotDue(side)
    if side in refused(process, state):
        raise Refused(side)
    at = lot.index(side)
    return _done(process, (values, lot[:at] + lot[at + 1:]), steps_at(process, side))


def steps_at(process, side):
    """The steps that a process has for a side, none if it names none."""
    for place, steps in process.does:
        if place == side:
            return steps
    return ()


def _done(process, state, steps):
    for item in steps:
        state = _done_item(process, state, item)
    return state


def _done_item(process, state, item):
    word = item[0]
    if word in CHANGING:
        return changed(process, state, item)
    if word == "if":
        return _done(process, state, item[2] if holds(process, state, item[1]) else item[3])
    for _ in range(item[1]):
        state = _done(process, state, item[2])
    return state
