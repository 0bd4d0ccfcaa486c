"""Conditions [31], steps [32] and the texts of conditions [33]."""

from nearhelp.checks import is_between, is_list
from nearhelp.errors import InvalidText

DEEPEST_CONDITION = 4
DEEPEST_STEPS = 3
MOST_STEPS = 6
MOST_ITEMS = 24
COMPARING = ("is", "above")
JOINING = ("both", "either", "not")
CHANGING = ("set", "add", "take")
PARTS = {"is": 2, "above": 2, "both": 2, "either": 2, "not": 1}
DIGITS = {"0": 0, "1": 1, "2": 2, "3": 3, "4": 4, "5": 5, "6": 6, "7": 7, "8": 8, "9": 9}


def is_condition(ports, numbers, value):
    """Whether any value is a condition over these ports and names of numbers."""
    return _is_condition(ports, numbers, value, DEEPEST_CONDITION)


def is_steps(ports, numbers, value):
    """Whether any value is steps over these ports and names of numbers."""
    return _are_steps(ports, numbers, value, DEEPEST_STEPS) and _count_items(value) <= MOST_ITEMS


def condition_text(condition):
    """The text of a condition."""
    word = condition[0]
    if word in COMPARING:
        return f"{amount_text(condition[1])} {word} {amount_text(condition[2])}"
    return " ".join([word] + [condition_text(part) for part in condition[1:]])


def read_condition(ports, numbers, text):
    """The condition over these ports and names of numbers that has a text."""
    if not isinstance(text, str):
        raise InvalidText(text)
    condition = take_condition(stacked_words(text))
    if not is_condition(ports, numbers, condition) or condition_text(condition) != text:
        raise InvalidText(text)
    return condition


def amount_text(amount):
    """The text of an amount."""
    if isinstance(amount, tuple):
        return f"due {amount[1]}"
    return f"{amount}"


def stacked_words(line):
    """The words of a line, the first one on top, at the end of the list."""
    return list(reversed(line.split(" ")))


# What is taken of words is not judged: a text is right if what it makes is right and has this very text.


def take_word(words):
    """Take the next word away, an empty one if there is none."""
    return words.pop() if words else ""


def take_digit(words):
    """Take the next word away, as an integer if it is a digit."""
    word = take_word(words)
    return DIGITS.get(word, word)


def take_amount(words):
    """Take the words of an amount away."""
    if not words or words[-1] != "due":
        return take_digit(words)
    word = take_word(words)
    return (word, take_word(words))


def take_condition(words):
    """Take the words of a condition away."""
    return _take_condition(words, DEEPEST_CONDITION)


def _take_condition(words, deepest):
    # A text may have thousands of words "not" one after the other.
    if deepest < 1:
        return None
    if not words or words[-1] not in JOINING:
        first = take_amount(words)
        word = take_word(words)
        return (word, first, take_amount(words))
    parts = [take_word(words)]
    for _ in range(PARTS[parts[0]]):
        parts.append(_take_condition(words, deepest - 1))
    return tuple(parts)


def _is_condition(ports, numbers, value, deepest):
    if deepest < 1 or not isinstance(value, tuple) or not value or not isinstance(value[0], str):
        return False
    if PARTS.get(value[0]) != len(value) - 1:
        return False
    if value[0] in COMPARING:
        return all([_is_amount(ports, numbers, part) for part in value[1:]])
    return all([_is_condition(ports, numbers, part, deepest - 1) for part in value[1:]])


def _is_amount(ports, numbers, value):
    if isinstance(value, tuple):
        return len(value) == 2 and value[0] == "due" and ports.has(value[1])
    return is_between(value, 0, 9) or value in numbers


def _are_steps(ports, numbers, value, deepest):
    if deepest < 1 or not is_list(value) or len(value) > MOST_STEPS:
        return False
    return all([_is_step(ports, numbers, item, deepest) for item in value])


def _is_step(ports, numbers, value, deepest):
    if not isinstance(value, tuple) or not value:
        return False
    word, parts = value[0], value[1:]
    if word in CHANGING:
        return len(parts) == 2 and parts[0] in numbers and _is_amount(ports, numbers, parts[1])
    if word == "repeat":
        return len(parts) == 2 and is_between(parts[0], 0, 9) and _are_steps(ports, numbers, parts[1], deepest - 1)
    if word != "if" or len(parts) != 3 or not is_condition(ports, numbers, parts[0]):
        return False
    return all([_are_steps(ports, numbers, part, deepest - 1) for part in parts[1:]])


def _count_items(steps):
    return sum([1 + _count_inner(item) for item in steps])


def _count_inner(item):
    if item[0] in CHANGING:
        return 0
    return sum([_count_items(part) for part in item[2:]])
