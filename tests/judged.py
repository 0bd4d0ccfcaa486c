"""How answers, and all that stands near them, are judged by the package and by the words of the points."""

from tests import judges
from tests.helpers import NearCase, any_values


def digits(value):
    """The digits of the longest integer in a value."""
    if isinstance(value, int):
        return len(str(abs(value)))
    return max([digits(item) for item in value], default=0) if isinstance(value, (list, tuple)) else 0


class JudgedCase(NearCase):
    def judged(self, call, judge, answer, least=20):
        """The call says of an answer, of all with one place changed and of all other values what the judge says."""
        self.assertIs(call(answer), True)
        self.assertIs(judge(answer), True)
        self.assertIs(call(judges.as_tuples(answer)), True)
        no = 0
        for value in judges.one_place_changed(answer):
            told = call(value)
            self.assertIs(told, judge(value), repr(value))
            no += not told
        self.assertGreater(no, least)
        for value in any_values():
            self.assertIs(call(value), judge(value))

    def new_throughout(self, give):
        """What is given is equal on each call, with new lists at all depths, none of them at two places."""
        first, wanted = give(), repr(give())
        found = lists_in(first)
        self.assertEqual(len(found), len({id(row) for row in found}))
        for row in found:
            row.clear()
        self.assertEqual(repr(give()), wanted)


def lists_in(value):
    """All lists at any depth within a value."""
    if not isinstance(value, (list, tuple)):
        return []
    return ([value] if isinstance(value, list) else []) + [found for item in value for found in lists_in(item)]
