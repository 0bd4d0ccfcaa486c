"""States [51], and what conditions [52] and single steps [53] mean in them."""

from nearhelp.checks import is_between, is_pair

MOST_ENDS = 4


def is_state(process, value):
    """Whether any value is a state of a process."""
    return is_pair(value) and _are_values(process.numbers, value[0]) and _is_lot(process.ports, value[1])


def _are_values(numbers, value):
    if not isinstance(value, tuple) or len(value) != len(numbers):
        return False
    return all([is_between(item, 0, top) for item, (_, top) in zip(value, numbers)])


def _is_lot(ports, value):
    if not isinstance(value, tuple) or len(value) > MOST_ENDS:
        return False
    return all([ports.has(side) for side in value]) and list(value) == sorted(value)


def holds(process, state, condition):
    """Whether a condition holds in a state."""
    word = condition[0]
    if word == "not":
        return not holds(process, state, condition[1])
    if word == "both":
        return holds(process, state, condition[1]) and holds(process, state, condition[2])
    if word == "either":
        return holds(process, state, condition[1]) or holds(process, state, condition[2])
    first = _amount_value(process, state, condition[1])
    second = _amount_value(process, state, condition[2])
    return first == second if word == "is" else first > second


def changed(process, state, change):
    """What a tuple with "set", "add" or "take" makes of a state."""
    word, name, amount = change
    values, lot = state
    at = _number_index(process, name)
    worth = _amount_value(process, state, amount)
    if word == "add":
        worth = values[at] + worth
    elif word == "take":
        worth = values[at] - worth
    _, top = process.numbers[at]
    return (values[:at] + (max(0, min(top, worth)),) + values[at + 1:], lot)


def _amount_value(process, state, amount):
    values, lot = state
    if isinstance(amount, tuple):
        return lot.count(amount[1])
    if isinstance(amount, str):
        return values[_number_index(process, amount)]
    return amount


def _number_index(process, name):
    return [number for number, _ in process.numbers].index(name)
