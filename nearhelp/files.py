"""Files [221]: texts of a library and of a verdict on it, which is right if the text can be read."""

from nearhelp.errors import InvalidText, InvalidVerdict, NearError
from nearhelp.libraries import read_library
from nearhelp.verdicts import is_verdict

WORDS = ("ever", "logarithm", "number")
MOST_DIGITS = 400


def file_text(library, verdict):
    """The text of a file."""
    if not is_verdict(library, verdict):
        raise InvalidVerdict(verdict)
    lines = [library.text(), verdict[0]]
    if verdict[0] == "number":
        lines.extend(_told_lines("rank", verdict[1]) + _told_lines("sign", verdict[2]))
    elif verdict[0] == "ever":
        lines.extend(_count_lines(verdict[1]))
    else:
        counts, rows, last = verdict[2]
        lines.extend(_told_lines("weight", verdict[1][0]) + _told_lines("weight", verdict[1][1]) + _count_lines(counts))
        lines.extend([f"row {side} {_standing_text(standing)}" for side, standing in rows])
        lines.append(f"last {_standing_text(last)}")
    return "\n".join(lines)


def read_file(text):
    """The library and the verdict whose file a text is."""
    if not isinstance(text, str):
        raise InvalidText(text)
    lines = text.split("\n")
    starts = [at for at, line in enumerate(lines) if line in WORDS]
    if not starts:
        raise InvalidText(text)
    try:
        library = read_library("\n".join(lines[:starts[0]]))
        verdict = _verdict_of(library, lines[starts[0]], [line.split(" ") for line in lines[starts[0] + 1:]])
        again = file_text(library, verdict)
    except NearError:
        raise InvalidText(text) from None
    if again != text:
        raise InvalidText(text)
    return (library, verdict)


def _told_lines(word, told):
    return [f"{word} {name} {number}" for name, number in told]


def _count_lines(counts):
    return [f"count {number} {_standing_text(standing)}" for standing, number in counts]


def _standing_text(standing):
    lot, closed = standing
    return " ".join([f"!{side}" if side in closed else side for side in lot])


# What is made of lines is not judged here: a text is right if what it makes is a verdict and has this very text.


def _verdict_of(library, word, rows):
    """The verdict that lines of words make, behind the line with its first item."""
    if word == "number":
        return (word, _told_of(rows, "rank"), _told_of(rows, "sign"))
    counts = [(_standing_of(row[2:]), _integer_of(row[1:2])) for row in rows if row[0] == "count"]
    if word == "ever":
        return (word, counts)
    told = _told_of(rows, "weight")
    many = len(library.ports.sides())
    held = [("".join(row[1:2]), _standing_of(row[2:])) for row in rows if row[0] == "row"]
    last = _standing_of([item for row in rows if row[0] == "last" for item in row[1:]])
    return (word, (told[:many], told[many:]), (counts, held, last))


def _told_of(rows, word):
    return [("".join(row[1:2]), _integer_of(row[2:3])) for row in rows if row[0] == word]


def _integer_of(words):
    """The integer that the only one of these words is, None if it is none or has too many digits."""
    word = "".join(words)
    digits = word.removeprefix("-")
    return int(word) if digits.isdigit() and len(digits) <= MOST_DIGITS else None


def _standing_of(words):
    lot = tuple([word.removeprefix("!") for word in words])
    return (lot, tuple(sorted({word.removeprefix("!") for word in words if word.startswith("!")})))
