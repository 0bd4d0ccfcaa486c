"""Steps as codes for the small machine [61], [62].

While a code is made, the last item of a row that goes on elsewhere tells how many rows further that is, so that
pieces of code can be put behind one another as they are.
"""

from nearhelp.errors import InvalidSide
from nearhelp.hands import steps_at
from nearhelp.words import CHANGING

GOING = ("jump", "unless", "loop")


def compiled(process, side):
    """A code that does the steps that a process has for a side."""
    if not process.ports.has(side):
        raise InvalidSide(side)
    return [_placed(row, at) for at, row in enumerate(_steps_rows(steps_at(process, side), 0))]


def _placed(row, at):
    if row[0] not in GOING:
        return row
    return row[:-1] + (at + row[-1],)


def _steps_rows(steps, slot):
    rows = []
    for item in steps:
        rows.extend(_item_rows(item, slot))
    return rows


def _item_rows(item, slot):
    word = item[0]
    if word in CHANGING:
        return [item]
    if word == "if":
        return _if_rows(item, slot)
    # A slot takes no 0.
    if item[1] == 0:
        return []
    rows = _steps_rows(item[2], slot + 1)
    return [("load", slot, item[1])] + rows + [("loop", slot, -len(rows))]


def _if_rows(item, slot):
    first = _steps_rows(item[2], slot)
    second = _steps_rows(item[3], slot)
    if second:
        first.append(("jump", len(second) + 1))
    return _test_rows(item[1], True, len(first)) + first + second


def _test_rows(condition, wanted, beyond):
    """Rows that end behind themselves if a condition is as wanted, and otherwise so many rows further."""
    word = condition[0]
    if word == "not":
        return _test_rows(condition[1], not wanted, beyond)
    if word == "both" or word == "either":
        second = _test_rows(condition[2], wanted, beyond)
        # "both" fails, and "either" holds, as soon as the first condition does: then the second one is left out.
        if (word == "both") == wanted:
            return _test_rows(condition[1], wanted, len(second) + beyond) + second
        return _test_rows(condition[1], not wanted, len(second)) + second
    if wanted:
        return [_unless_row(condition, 1 + beyond)]
    return [_unless_row(condition, 2), ("jump", 1 + beyond)]


def _unless_row(condition, further):
    word, first, second = condition
    return ("unless", word, first, second, further)
