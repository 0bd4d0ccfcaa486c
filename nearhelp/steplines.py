"""The lines of steps in the text of a process [42]."""

from nearhelp.words import (
    DEEPEST_STEPS, amount_text, condition_text, stacked_words, take_amount, take_condition, take_digit, take_word,
)

LINKS = {"set": "to", "add": "by", "take": "by"}


def step_lines(steps, front):
    """The lines of steps, with so many spaces in front."""
    lines = []
    for item in steps:
        lines.extend(_item_lines(item, front))
    return lines


def _item_lines(item, front):
    word = item[0]
    space = " " * front
    if word == "if":
        return _if_lines(item, front)
    if word == "repeat":
        return [f"{space}repeat {item[1]} times"] + step_lines(item[2], front + 1)
    return [f"{space}{word} {item[1]} {LINKS[word]} {amount_text(item[2])}"]


def _if_lines(item, front):
    space = " " * front
    lines = [f"{space}if {condition_text(item[1])}"] + step_lines(item[2], front + 1)
    if item[3]:
        lines.append(f"{space}else")
        lines.extend(step_lines(item[3], front + 1))
    return lines


def take_steps(lines, front):
    """Take the lines of steps away, the next line being the last of the list."""
    return _take_steps(lines, front, DEEPEST_STEPS)


def _take_steps(lines, front, deepest):
    steps = []
    # A text may have lines that are deeper than steps can be: these are left to make wrong items.
    while deepest > 0 and lines and lines[-1].startswith(" " * front):
        steps.append(_take_item(lines, front, deepest))
    return steps


def _take_item(lines, front, deepest):
    words = stacked_words(lines.pop()[front:])
    word = take_word(words)
    if word == "if":
        condition = take_condition(words)
        first = _take_steps(lines, front + 1, deepest - 1)
        return (word, condition, first, _take_else(lines, front, deepest))
    if word == "repeat":
        times = take_digit(words)
        return (word, times, _take_steps(lines, front + 1, deepest - 1))
    name = take_word(words)
    take_word(words)
    return (word, name, take_amount(words))


def _take_else(lines, front, deepest):
    if not lines or lines[-1] != " " * front + "else":
        return []
    lines.pop()
    return _take_steps(lines, front + 1, deepest - 1)
