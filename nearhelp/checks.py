"""What several files ask of a value that may be anything."""

LETTERS = "abcdefghijklmnopqrstuvwxyz"


def is_integer(value):
    """Whether a value is an integer."""
    # True and False are integers to Python, but not to the document.
    return isinstance(value, int) and not isinstance(value, bool)


def is_between(value, low, high):
    """Whether a value is an integer from low to high."""
    return is_integer(value) and low <= value <= high


def is_from(value, low):
    """Whether a value is an integer from low on."""
    return is_integer(value) and value >= low


def is_index(value, many):
    """Whether a value is the index of one of so many things."""
    return is_between(value, 0, many - 1)


def is_list(value):
    """Whether a value may stand where a list is expected."""
    return isinstance(value, (list, tuple))


def are_integers(value, many):
    """Whether a value is a list of so many integers."""
    return is_list(value) and len(value) == many and all([is_integer(item) for item in value])


def are_indices(value, many):
    """Whether a value is a list of different indices, each of one of so many things."""
    return is_list(value) and all([is_index(item, many) for item in value]) and are_different(value)


def are_told(value, names):
    """Whether a value is a list of a tuple (name, integer) for each of these names, in order."""
    if not is_list(value) or not all([is_pair(item) and is_integer(item[1]) for item in value]):
        return False
    return [name for name, _ in value] == names


def is_pair(value):
    """Whether a value is a tuple of two."""
    return isinstance(value, tuple) and len(value) == 2


def is_name(value, most):
    """Whether a value is a name of at most so many letters."""
    return isinstance(value, str) and 1 <= len(value) <= most and all([letter in LETTERS for letter in value])


def are_different(items):
    """Whether no two of these strings, or of these integers, are equal."""
    return len(set(items)) == len(items)
