"""What several files ask of a value that may be anything."""

LETTERS = "abcdefghijklmnopqrstuvwxyz"


def is_between(value, low, high):
    """Whether a value is an integer from low to high."""
    # True and False are integers to Python, but not to the document.
    return isinstance(value, int) and not isinstance(value, bool) and low <= value <= high


def is_index(value, many):
    """Whether a value is the index of one of so many things."""
    return is_between(value, 0, many - 1)


def is_list(value):
    """Whether a value may stand where a list is expected."""
    return isinstance(value, (list, tuple))


def is_pair(value):
    """Whether a value is a tuple of two."""
    return isinstance(value, tuple) and len(value) == 2


def is_name(value, most):
    """Whether a value is a name of at most so many letters."""
    return isinstance(value, str) and 1 <= len(value) <= most and all([letter in LETTERS for letter in value])


def are_different(names):
    """Whether no two of these strings are equal."""
    return len(set(names)) == len(names)
