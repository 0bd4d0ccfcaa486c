"""The small machine that runs codes [61], [62]."""

from nearhelp.errors import InvalidState
from nearhelp.states import changed, holds, is_state
from nearhelp.words import CHANGING


def run_code(process, code, state):
    """The state that a code makes of a state."""
    if not is_state(process, state):
        raise InvalidState(state)
    slots = [0, 0, 0]
    at = 0
    while at < len(code):
        row = code[at]
        if row[0] in CHANGING:
            state = changed(process, state, row)
            at += 1
        else:
            at = _next_index(process, row, at, state, slots)
    return state


def _next_index(process, row, at, state, slots):
    """Do a row that changes no number, and tell with which row the machine goes on."""
    word = row[0]
    if word == "jump":
        return row[1]
    if word == "unless":
        return at + 1 if holds(process, state, row[1:4]) else row[4]
    slot = row[1]
    if word == "load":
        slots[slot] = row[2]
        return at + 1
    slots[slot] -= 1
    return row[2] if slots[slot] > 0 else at + 1
