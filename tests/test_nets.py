"""[91] nets, [92] ties, [93] surely."""

import random

from nearhelp.errors import InvalidHand, InvalidHands, InvalidMeetings, InvalidStopped
from nearhelp.libraries import Library
from nearhelp.nets import Net, surely
from nearhelp.ports import Ports
from nearhelp.processes import Process
from tests import makers
from tests.helpers import NearCase, any_values, integers_to_bools, parts_to_any, tuples_to_lists
from tests.model_nets import RunModel, first_acts, surely_told, ties_told

PORTS = Ports([("p", 2), ("t", 3)])


def make(name, begins, refuses=(), ports=PORTS):
    return Process(ports, name, [], begins, [], refuses)


def library():
    """Its books: x has p1 p1, refused while t2 is due; y has all sides but p2, alone; z has p2 and p2 p2."""
    x = make("x", [["p1", "p1", "t2"]], [("p1", ("above", ("due", "t2"), 0))])
    y = make("y", [["t1"], ["t3"], ["t2"]])
    z = make("z", [["p2", "p2"], ["p1"]])
    return Library(PORTS, [x, y, z])


LIBRARY = library()
X, Y, Z = [LIBRARY.book(name) for name in ["x", "y", "z"]]
GREAT = X.place(((), ("p1", "p1", "t2")))
# Hand 0 has two ends of p1 and one of t2, hand 1 two of p2; hands 2 and 3 the others of the port t; 4 and 5 stand apart.
HANDS = [("x", GREAT), ("z", 2), ("y", 0), ("y", 2), ("z", 0), ("z", 2), ("z", 0)]
MEETINGS = [("p", (0, 1)), ("t", (2, 0, 3)), ("p", (0, 5)), ("p", (4, 1)), ("p", (6, 5))]
APART = [("p", (0, 1)), ("t", (2, 0, 3)), ("p", (0, 1)), ("p", (4, 5)), ("p", (6, 5))]


class NetTest(NearCase):
    def test_books(self):
        self.assertEqual([state[1] for state in Z.states()], [("p1",), ("p2",), ("p2", "p2")])
        self.assertEqual([state[1] for state in Y.states()], [("t1",), ("t2",), ("t3",)])
        self.assertEqual([state[1] for state in X.states()], [("p1",), ("p1", "p1"), ("p1", "p1", "t2")])

    def test_what_a_net_tells(self):
        net = Net(LIBRARY, HANDS, MEETINGS)
        self.assertIs(net.library, LIBRARY)
        self.same([net.hands(), net.meetings()], [HANDS, MEETINGS])
        standings = [(("p1", "p1", "t2"), ("p1",)), (("p2", "p2"), ()), (("t1",), ()), (("t3",), ())]
        self.same([net.standing(hand) for hand in range(4)], standings)
        self.same([net.due(hand) for hand in range(7)], [[0, 1, 2], [0, 3], [1], [1], [3], [2, 4], [4]])
        self.same([net.ready(), net.able()], [[1, 3, 4], [0, 1, 2, 3, 4, 5, 6]])
        self.same([net.standing(hand=3), net.due(hand=0), net.ties(hand=6)], [standings[3], [0, 1, 2], net.ties(6)])
        other = Net(library=LIBRARY, hands=tuple(HANDS), meetings=tuple(MEETINGS))
        self.assertTrue(other == net)
        self.same([other.hands(), other.meetings()], [HANDS, MEETINGS])

    def test_several_ends_of_one_side_at_one_hand(self):
        net = Net(LIBRARY, HANDS, APART)
        self.same([net.due(0), net.due(1), net.ready(), net.able()], [[0, 1, 2], [0, 2], [1, 3, 4], [0, 2, 3, 4, 5, 6]])

    def test_one_hand_two_hands_and_a_net_without_ready_meetings(self):
        one = [("z", 0)]
        for meetings in [[], [("p", (0, 0))], [("p", (0,))], [("p", (0, 1))], [("p", (0, 0)), ("p", (0, 0))]]:
            self.refuses(InvalidMeetings, meetings, Net, LIBRARY, one, meetings)
        two = Net(LIBRARY, [("z", 1), ("z", 0)], [("p", (1, 0))])
        self.same([two.ready(), two.able(), two.ties(1)], [[0], [0, 1], [1, 0]])
        closed = make("closed", [["p1", "p2"]], [("p1", ("is", 0, 0))])
        both = Library(PORTS, [closed])
        at = both.book("closed").place(((), ("p1", "p2")))
        net = Net(both, [("closed", at)] * 2, [("p", (0, 1)), ("p", (1, 0))])
        self.same([net.ready(), net.able(), surely(net, [])], [[], [], [None, None]])

    def test_equal_by_libraries_hands_and_meetings(self):
        swapped = [APART[2], *APART[1:2], APART[0], *APART[3:]]
        made = [
            Net(LIBRARY, HANDS, MEETINGS), Net(LIBRARY, HANDS, APART), Net(LIBRARY, HANDS, APART[::-1]),
            Net(LIBRARY, [("z", 1), ("z", 0)], [("p", (1, 0))]), Net(LIBRARY, [("z", 0), ("z", 1)], [("p", (0, 1))]),
            Net(LIBRARY, [("z", 1), ("x", 0)], [("p", (1, 0))]),
            Net(Library(PORTS, [Z.process]), [("z", 1), ("z", 0)], [("p", (1, 0))]),
        ]
        for at, net in enumerate(made):
            again = Net(Library(PORTS, [net.library.book(name).process for name in net.library.names()]),
                        tuple(net.hands()), tuple(net.meetings()))
            self.assertTrue(net == again)
            for place, other in enumerate(made):
                self.assertIs(net == other, at == place)
                self.assertIs(net != other, at != place)
        self.assertTrue(Net(LIBRARY, HANDS, swapped) == made[1])
        for value in any_values():
            self.assertIs(made[0] == value, False)

    def test_lists_are_new_and_none_is_kept(self):
        hands, meetings = list(HANDS), list(MEETINGS)
        net = Net(LIBRARY, hands, meetings)
        hands.pop()
        meetings[0] = ("p", (1, 0))
        self.same([net.hands(), net.meetings()], [HANDS, MEETINGS])
        for give in [net.hands, net.meetings, net.ready, net.able, lambda: net.due(0), lambda: net.ties(0), lambda: surely(net, [])]:
            self.new_lists(give)
        self.assertTrue(net == Net(LIBRARY, HANDS, MEETINGS))

    def test_no_hands_to_ask_for(self):
        net = Net(LIBRARY, HANDS, MEETINGS)
        for value in [value for value in any_values() if type(value) is not int or not 0 <= value < 7] + [7, -1, True]:
            for call in [net.standing, net.due, net.ties]:
                self.refuses(InvalidHand, value, call, value)
                self.refuses(InvalidHand, value, call, hand=value)


class WrongTest(NearCase):
    def wrong_hands(self, hands, meetings=()):
        self.refuses(InvalidHands, hands, Net, LIBRARY, hands, meetings)
        self.refuses(InvalidHands, hands, Net, library=LIBRARY, hands=hands, meetings=None)

    def wrong_meetings(self, meetings, hands=tuple(HANDS)):
        self.refuses(InvalidMeetings, meetings, Net, LIBRARY, hands, meetings)
        self.refuses(InvalidMeetings, meetings, Net, library=LIBRARY, hands=hands, meetings=meetings)

    def test_hands(self):
        for value in any_values() + ["z0", ["z", 0], [("z", 3)], ("z", -1), ("z", True), ("Z", 0), ("z", 3), (("z", 0),) * 201]:
            self.wrong_hands(value)
            self.wrong_hands([*HANDS, value])
        self.wrong_hands(("z", 0))
        self.wrong_hands([("tea", 0)])
        self.wrong_hands([("z", 0, 0)])
        self.wrong_hands([("z",)])
        for value in integers_to_bools(HANDS) + tuples_to_lists(HANDS) + parts_to_any(HANDS):
            self.wrong_hands(value, MEETINGS)

    def test_meetings(self):
        for value in any_values() + ["p", ("p", (0, 1)), {"p": 0}]:
            if value != [] and value != ():
                self.wrong_meetings(value)
                self.wrong_meetings([*MEETINGS, value])
                self.wrong_meetings([("p", value), *MEETINGS[1:]])
            if value != "p":
                self.wrong_meetings([(value, (0, 1)), *MEETINGS[1:]])
            if value is True or value != 1:
                self.wrong_meetings([("p", (0, value)), *MEETINGS[1:]])
        for value in integers_to_bools(MEETINGS) + tuples_to_lists(MEETINGS) + parts_to_any(MEETINGS):
            self.wrong_meetings(value)
        self.wrong_meetings([])
        self.wrong_meetings(())

    def test_meetings_that_are_not_those_of_the_lots(self):
        self.wrong_meetings(MEETINGS[1:])
        self.wrong_meetings(MEETINGS + MEETINGS[:1])
        self.wrong_meetings([("p", (1, 0)), *MEETINGS[1:]])
        self.wrong_meetings([("p", (0, 4)), *MEETINGS[1:3], ("p", (1, 1)), MEETINGS[4]])
        self.wrong_meetings([MEETINGS[0], ("t", (2, 3, 0)), *MEETINGS[2:]])
        self.wrong_meetings([MEETINGS[0], ("t", (2, 0)), *MEETINGS[2:]])
        self.wrong_meetings([("p", (0, 1, 2)), *MEETINGS[1:]])
        self.wrong_meetings([("q", (0, 1)), *MEETINGS[1:]])
        # Two ends of one hand are on one side each: they can't be those of one meeting.
        ring = Library(PORTS, [make("ring", [["p1", "p2"]])])
        at = ring.book("ring").place(((), ("p1", "p2")))
        for meetings in [[("p", (0, 0)), ("p", (1, 1))], [("p", (0, 0)), ("p", (0, 1)), ("p", (1, 0))]]:
            self.refuses(InvalidMeetings, meetings, Net, ring, [("ring", at)] * 2, meetings)
        self.assertEqual(Net(ring, [("ring", at)] * 2, [("p", (0, 1)), ("p", (1, 0))]).ready(), [0, 1])

    def test_errors_in_their_order(self):
        self.refuses(InvalidHands, None, Net, LIBRARY, None, None)
        self.refuses(InvalidMeetings, None, Net, LIBRARY, HANDS, None)

    def test_two_hundred_hands_and_four_hundred_meetings(self):
        ports = Ports([("p", 2)])
        four = Library(ports, [make("four", [["p1", "p1", "p2", "p2"]], (), ports)])
        at = four.book("four").place(((), ("p1", "p1", "p2", "p2")))
        for many in [3, 199, 200, 201, 2000]:
            hands = [("four", at)] * many
            meetings = [("p", (hand, (hand + far) % many)) for far in (1, 2) for hand in range(many)]
            if many > 200:
                self.refuses(InvalidHands, hands, Net, four, hands, meetings)
                continue
            net = Net(four, hands, meetings)
            self.assertEqual([len(net.hands()), len(net.meetings()), len(net.ready())], [many, 2 * many, 2 * many])
            self.assertEqual(max(net.ties(0)), (many + 2) // 4)
            self.assertEqual(surely(net, []), [0] * many)
        net = Net(four, [("four", at)] * 200, [("p", (hand, (hand + far) % 200)) for far in (1, 2) for hand in range(200)])
        told = surely(net, list(range(0, 200, 2)))
        self.assertEqual(told, [None, 0] * 100)


class TiesTest(NearCase):
    def test_hands_of_another_part(self):
        net = Net(LIBRARY, HANDS, APART)
        self.same(net.ties(0), [0, 1, 1, 1, None, None, None])
        self.same(net.ties(3), [1, 2, 1, 0, None, None, None])
        self.same(net.ties(6), [None, None, None, None, 2, 1, 0])

    def test_ties_of_random_nets(self):
        rng, apart = random.Random(92), 0
        for _ in range(60):
            net = makers.make_net(rng, makers.make_library(rng))
            told = [net.ties(hand) for hand in range(len(net.hands()))]
            self.same(told, ties_told(net))
            apart += None in told[0]
        self.assertGreater(apart, 5)


class SurelyTest(NearCase):
    def test_a_hand_that_refuses_its_own_meetings(self):
        net = Net(LIBRARY, [("x", 2), ("z", 2), ("y", 0), ("y", 2)], [("p", (0, 1)), ("p", (0, 1)), ("t", (2, 0, 3))])
        self.same(surely(net, []), [0, 1, 0, 0])
        self.same(surely(net, [2]), [None, None, None, None])
        self.same(surely(net=net, stopped=[1]), [0, None, 0, 0])
        self.same(surely(net, (3, 1)), [None, None, None, None])

    def test_not_stopped(self):
        net = Net(LIBRARY, HANDS, MEETINGS)
        for value in any_values() + [[7], [-1], [0, 0], [True], ["0"], 0, "0", {"0": 0}, [0, 1, 2, 3, 4, 5, 6, 7], [[0]]]:
            if value != [] and value != ():
                self.refuses(InvalidStopped, value, surely, net, value)
                self.refuses(InvalidStopped, value, surely, net=net, stopped=value)
        self.same([surely(net, []), surely(net, ())], [surely_told(net, [])] * 2)

    def test_random_nets(self):
        rng, found = random.Random(93), []
        for _ in range(120):
            net = makers.make_net(rng, makers.make_library(rng, helping=rng.random() < 0.8))
            many = len(net.hands())
            for stopped in [[], rng.sample(range(many), rng.randint(1, min(3, many)))]:
                told = surely(net, stopped)
                self.same(told, surely_told(net, stopped))
                self.assertTrue(all(told[hand] is None for hand in stopped))
                self.assertTrue(all(t is None or t < many for t in told))
                found += told
        self.assertTrue({None, 0, 1, 2, 3} <= set(found))

    def test_no_hand_acts_sooner_in_any_run(self):
        rng, tried = random.Random(931), 0
        while tried < 40:
            net = makers.make_net(rng, makers.make_library(rng), 4)
            if len(net.meetings()) > 8:
                continue
            tried += 1
            many = len(net.hands())
            for stopped in [[], rng.sample(range(many), 1)]:
                for told, first in zip(surely(net, stopped), first_acts(net, stopped)):
                    self.assertTrue(first is None or told is not None and first > told)


class RandomTest(NearCase):
    def test_ready_and_able(self):
        rng = random.Random(91)
        for _ in range(100):
            net = makers.make_net(rng, makers.make_library(rng, helping=rng.random() < 0.5), 20)
            model = RunModel(net)
            self.same([net.ready(), net.able()], [model.ready(), model.able()])
            for hand, (name, index) in enumerate(net.hands()):
                self.same(net.standing(hand), net.library.book(name).standing(index))
                self.same(net.due(hand), [at for at, (_, row) in enumerate(net.meetings()) if hand in row])
                self.assertEqual(len(net.due(hand)), len(net.standing(hand)[0]))


if __name__ == "__main__":
    import unittest

    unittest.main()
