"""[11] errors, and the interface of nearhelp/errors.py."""

import inspect
import unittest

from nearhelp import errors
from nearhelp.errors import NearError
from tests.helpers import any_values

GIVEN = """InvalidPorts InvalidSide InvalidText InvalidName InvalidNumbers InvalidBegins InvalidDoes InvalidRefuses
InvalidIndex InvalidState InvalidProcesses InvalidStanding InvalidHands InvalidMeetings InvalidHand InvalidStopped
InvalidRound InvalidOrder InvalidPolicy InvalidRows InvalidSums InvalidCosts InvalidCounts InvalidWeights InvalidDepth
InvalidCount InvalidRanks InvalidProcess InvalidRules InvalidFacts InvalidVerdict InvalidLine""".split()
FURTHER = {
    "NotDue": "side", "Refused": "side", "TooMany": "count", "Gone": "hand", "Stopped": "hand",
    "NoSolution": "denial", "NotLeft": "standing", "Near": "far", "Still": "counts", "NotNumber": "word",
    "Struck": "standing", "KeptUp": "kept",
}
BARE = ["NoNet", "MayStand", "Empty", "NothingToUndo", "NothingToRedo"]
ATTRIBUTES = {**{name: "given" for name in GIVEN}, **FURTHER}


class ErrorsTest(unittest.TestCase):
    def test_all_are_there_and_no_more(self):
        found = [name for name, value in vars(errors).items() if inspect.isclass(value)]
        self.assertEqual(sorted(found), sorted(["NearError", *ATTRIBUTES, *BARE]))

    def test_near_error_is_a_value_error(self):
        self.assertEqual(NearError.__bases__, (ValueError,))
        self.assertIsInstance(NearError(), ValueError)

    def test_each_is_a_near_error_alone(self):
        for name in [*ATTRIBUTES, *BARE]:
            self.assertEqual(getattr(errors, name).__mro__[1:], NearError.__mro__, name)

    def test_attributes_by_position_and_by_name(self):
        for name, attribute in ATTRIBUTES.items():
            made = getattr(errors, name)
            for value in any_values():
                self.assertIs(getattr(made(value), attribute), value)
                self.assertIs(getattr(made(**{attribute: value}), attribute), value)
            self.assertEqual(list(vars(made(1))), [attribute])

    def test_those_without_attributes(self):
        for name in BARE:
            self.assertEqual(vars(getattr(errors, name)()), {}, name)

    def test_they_can_be_raised_and_caught(self):
        for name in ATTRIBUTES:
            value = [name]
            with self.assertRaises(ValueError) as caught:
                raise getattr(errors, name)(value)
            self.assertIs(getattr(caught.exception, ATTRIBUTES[name]), value)


if __name__ == "__main__":
    unittest.main()
