"""Processes [41] and their texts [42]."""

from nearhelp.checks import are_different, is_between, is_list, is_name, is_pair
from nearhelp.errors import (
    InvalidBegins, InvalidDoes, InvalidName, InvalidNumbers, InvalidRefuses, InvalidText, NearError,
)
from nearhelp.steplines import step_lines, take_steps
from nearhelp.words import (
    CHANGING, condition_text, is_condition, is_steps, stacked_words, take_condition, take_digit, take_word,
)

MOST_LETTERS = 8
MOST_NUMBERS = 2
MOST_TOP = 3
MOST_BEGINS = 3
MOST_ENDS = 4
MOST_REFUSES = 6
WORDS = (
    "port", "process", "number", "begin", "at", "refuse", "if", "else", "repeat", "times", "set", "to", "add",
    "take", "by", "is", "above", "both", "either", "not", "due",
)


class Process:
    """What hands that run it meet at, do and refuse."""

    def __init__(self, ports, name, numbers, begins, does, refuses):
        if not is_name(name, MOST_LETTERS):
            raise InvalidName(name)
        if not _are_numbers(numbers):
            raise InvalidNumbers(numbers)
        if not _are_begins(ports, begins):
            raise InvalidBegins(begins)
        names = [number for number, _ in numbers]
        if not _are_does(ports, names, does):
            raise InvalidDoes(does)
        if not _are_refuses(ports, names, refuses):
            raise InvalidRefuses(refuses)
        self.ports = ports
        self.name = name
        self.numbers = tuple(numbers)
        self.begins = tuple([tuple(begin) for begin in begins])
        self.does = tuple([(side, _frozen(steps)) for side, steps in does])
        self.refuses = tuple(refuses)

    def __eq__(self, other):
        if not isinstance(other, Process):
            return False
        if self.ports != other.ports or self.name != other.name or self.numbers != other.numbers:
            return False
        return self.begins == other.begins and self.does == other.does and self.refuses == other.refuses

    def text(self):
        """The text of the process."""
        lines = [f"process {self.name}"]
        lines.extend([f" number {number} {top}" for number, top in self.numbers])
        lines.extend([" begin " + " ".join(begin) for begin in self.begins])
        for side, steps in self.does:
            lines.append(f" at {side}")
            lines.extend(step_lines(steps, 2))
        lines.extend([f" refuse {side} if {condition_text(condition)}" for side, condition in self.refuses])
        return "\n".join(lines)


def read_process(ports, text):
    """The process of these ports with a text."""
    if not isinstance(text, str):
        raise InvalidText(text)
    try:
        process = _process_of(ports, text)
    except NearError:
        raise InvalidText(text) from None
    if process.text() != text:
        raise InvalidText(text)
    return process


def _are_numbers(value):
    if not is_list(value) or len(value) > MOST_NUMBERS:
        return False
    return all([_is_number(item) for item in value]) and are_different([name for name, _ in value])


def _is_number(value):
    if not is_pair(value) or not is_name(value[0], MOST_LETTERS):
        return False
    return value[0] not in WORDS and is_between(value[1], 1, MOST_TOP)


def _are_begins(ports, value):
    if not is_list(value) or not 1 <= len(value) <= MOST_BEGINS:
        return False
    return all([_is_begin(ports, item) for item in value])


def _is_begin(ports, value):
    if not is_list(value) or not 1 <= len(value) <= MOST_ENDS:
        return False
    return all([ports.has(side) for side in value])


def _are_does(ports, names, value):
    if not is_list(value) or not _have_sides(ports, value):
        return False
    if not are_different([side for side, _ in value]):
        return False
    return all([is_steps(ports, names, steps) for _, steps in value])


def _are_refuses(ports, names, value):
    if not is_list(value) or len(value) > MOST_REFUSES or not _have_sides(ports, value):
        return False
    return all([is_condition(ports, names, condition) for _, condition in value])


def _have_sides(ports, items):
    return all([is_pair(item) and ports.has(item[0]) for item in items])


def _frozen(steps):
    """Steps with a tuple in the place of each list."""
    return tuple([_frozen_item(item) for item in steps])


def _frozen_item(item):
    if item[0] in CHANGING:
        return item
    return item[:2] + tuple([_frozen(part) for part in item[2:]])


def _process_of(ports, text):
    """The process that a text makes, whatever is wrong with the text: the caller compares it with the text of it."""
    lines = list(reversed(text.split("\n")))
    name = lines.pop()[len("process "):]
    numbers, begins, does, refuses = [], [], [], []
    while lines:
        words = stacked_words(lines.pop()[1:])
        word = take_word(words)
        if word == "begin":
            begins.append(list(reversed(words)))
            continue
        first = take_word(words)
        if word == "number":
            numbers.append((first, take_digit(words)))
        elif word == "at":
            does.append((first, take_steps(lines, 2)))
        elif word == "refuse":
            take_word(words)
            refuses.append((first, take_condition(words)))
    return Process(ports, name, numbers, begins, does, refuses)
