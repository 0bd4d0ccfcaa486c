"""[3], [9], [21] ports."""

import unittest

from nearhelp.errors import InvalidPorts, InvalidSide
from nearhelp.ports import Ports
from tests.helpers import NearCase, any_values, integers_to_bools, parts_to_any, tuples_to_lists

TWELVE = [(name, 2 + at % 2) for at, name in enumerate("lkjihgfedcba")]


class KindsTest(NearCase):
    def wrong(self, kinds):
        self.refuses(InvalidPorts, kinds, Ports, kinds)

    def test_kinds_are_kept_in_order_as_tuples(self):
        self.same(Ports([("q", 3), ("p", 2)]).kinds, (("q", 3), ("p", 2)))
        self.same(Ports((("q", 3), ("p", 2))).kinds, (("q", 3), ("p", 2)))
        self.same(Ports(kinds=[("q", 3)]).kinds, (("q", 3),))

    def test_from_one_to_twelve_kinds(self):
        self.same(Ports(TWELVE).kinds, tuple(TWELVE))
        self.same(Ports(TWELVE[:1]).kinds, (("l", 2),))
        self.wrong([])
        self.wrong(())
        self.wrong(TWELVE + [("m", 2)])
        self.wrong([(f"{a}{b}", 2) for a in "abcdefghijklmnopqrst" for b in "abcdefghijklmnopqrst"] * 5)

    def test_two_or_three_sides(self):
        for sides in [0, 1, 4, -2, 20, 10 ** 399, True, False, None, "2", (2,), [2]]:
            self.wrong([("p", sides)])
            self.wrong([("q", 2), ("p", sides)])

    def test_names_of_one_to_four_letters(self):
        for name in ["a", "z", "ab", "abcd", "zzzz", "port", "not", "due", "is"]:
            self.assertEqual(Ports([(name, 2)]).sides(), [name + "1", name + "2"])
        for name in ["", "abcde", "P", "aB", "p1", "p ", " p", "a\n", "a-", "`", "{", "a" * 20000, None, 1, True]:
            self.wrong([(name, 2)])
        for name in [("p",), ["p"], {"p": 1}, ()]:
            self.wrong([(name, 2)])

    def test_names_are_different(self):
        self.wrong([("p", 2), ("p", 2)])
        self.wrong([("p", 2), ("q", 2), ("p", 3)])

    def test_items_are_tuples_of_two(self):
        for item in [["p", 2], ("p",), ("p", 2, 2), "p2", (2, "p"), {"p": 2}, None, (), []]:
            self.wrong([item])
            self.wrong([("q", 2), item])

    def test_any_value(self):
        for value in any_values():
            self.wrong(value)
        for value in any_values():
            self.wrong([value])
        for value in tuples_to_lists([("p", 2), ("q", 3)]) + integers_to_bools([("p", 2), ("q", 3)]):
            self.wrong(value)
        for value in parts_to_any([("p", 2), ("q", 3)]):
            self.wrong(value)

    def test_the_argument_is_neither_changed_nor_kept(self):
        kinds = [("q", 3), ("p", 2)]
        ports = Ports(kinds)
        self.assertEqual(kinds, [("q", 3), ("p", 2)])
        kinds.append(("r", 2))
        self.assertEqual([ports.kinds, ports.sides()], [(("q", 3), ("p", 2)), ["p1", "p2", "q1", "q2", "q3"]])
        self.assertEqual(ports.text(), "port q 3\nport p 2")


class SidesTest(NearCase):
    def test_sides_ascend(self):
        self.assertEqual(Ports([("b", 3), ("ab", 2), ("a", 3)]).sides(), ["a1", "a2", "a3", "ab1", "ab2", "b1", "b2", "b3"])
        self.assertEqual(len(Ports(TWELVE).sides()), 30)
        self.new_lists(Ports([("p", 2)]).sides)

    def test_kind_and_others(self):
        ports = Ports([("ab", 3), ("a", 2), ("abcd", 2)])
        told = [(side, ports.kind(side), ports.others(side)) for side in ports.sides()]
        self.same(told, [
            ("a1", "a", ("a2",)), ("a2", "a", ("a1",)),
            ("ab1", "ab", ("ab2", "ab3")), ("ab2", "ab", ("ab1", "ab3")), ("ab3", "ab", ("ab1", "ab2")),
            ("abcd1", "abcd", ("abcd2",)), ("abcd2", "abcd", ("abcd1",)),
        ])
        self.assertEqual([ports.kind(side="ab2"), ports.others(side="ab2")], ["ab", ("ab1", "ab3")])

    def test_no_sides(self):
        ports = Ports([("p", 2), ("q", 3)])
        values = [value for value in any_values() if value != "p1"]
        for value in values + ["p0", "p3", "q0", "q4", "q", "1p", "p11", "p1 ", "P1", "q-1", "q03", ["p1"], ("p1",)]:
            self.refuses(InvalidSide, value, ports.kind, value)
            self.refuses(InvalidSide, value, ports.others, value)
            self.refuses(InvalidSide, value, ports.kind, side=value)


class EqualTest(NearCase):
    def test_equal_by_kinds_alone(self):
        ports = Ports([("p", 2), ("q", 3)])
        self.assertTrue(ports == Ports((("p", 2), ("q", 3))))
        self.assertFalse(ports != Ports([("p", 2), ("q", 3)]))
        for kinds in [[("q", 3), ("p", 2)], [("p", 2)], [("p", 2), ("q", 2)], [("p", 3), ("q", 3)], [("p", 2), ("r", 3)]]:
            self.assertFalse(ports == Ports(kinds))
            self.assertTrue(ports != Ports(kinds))

    def test_not_equal_to_any_other_value(self):
        ports = Ports([("z", 2)])
        for value in any_values() + [ports.kinds]:
            self.assertFalse(ports == value)
            self.assertFalse(value == ports)


if __name__ == "__main__":
    unittest.main()
