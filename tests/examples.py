"""How the examples of the interface are tried, as they stand there."""

import unittest

from nearhelp.errors import NearError


def examples(text):
    """The pairs of a source and what is told below it, or None."""
    lines = text.strip("\n").split("\n") + [">>> "]
    for line, below in zip(lines, lines[1:]):
        if line.startswith(">>> "):
            yield line[4:], None if below.startswith(">>> ") else below


def told_error(error, wanted):
    """An error as the examples tell it, with its attribute or by its name alone."""
    name = type(error).__name__
    values = ", ".join([repr(value) for value in vars(error).values()])
    return f"raises {name}({values})" if "(" in wanted else f"raises {name}"


class ExamplesCase(unittest.TestCase):
    def check(self, text):
        space, told = {}, 0
        for source, wanted in examples(text):
            if wanted is None:
                exec(source, space)
                continue
            told += 1
            with self.subTest(source=source):
                try:
                    got = repr(eval(source, space))
                except NearError as error:
                    got = told_error(error, wanted)
                self.assertEqual(got, wanted)
        self.assertGreater(told, 1)
