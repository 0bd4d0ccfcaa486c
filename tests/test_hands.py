"""[4], [51], [52], [53] states, what is refused in them, and steps."""

import random
import unittest

from nearhelp.errors import InvalidIndex, InvalidState, NotDue, Refused
from nearhelp.hands import begin_state, refused, standing, step
from nearhelp.ports import Ports
from nearhelp.processes import Process
from tests import makers
from tests.helpers import NearCase, any_values, integers_to_bools, parts_to_any, tuples_to_lists
from tests.model import Model

SMALL = Ports([("p", 2), ("q", 2)])


def make(does=(), refuses=(), numbers=(("a", 3), ("b", 2)), begins=(("p1", "q2"),)):
    return Process(SMALL, "tea", numbers, begins, does, refuses)


PLAIN = make()
RIGHT = ((3, 0), ("p1", "p1", "q1", "q2"))
STATES = [RIGHT, ((0, 0), ()), ((0, 2), ("p1",)), ((3, 2), ("q2",) * 4), ((1, 1), ("p1", "p2", "q1", "q2"))]
NO_STATES = [
    ((4, 0), ()), ((0, 3), ()), ((-1, 0), ()), ((0, -1), ()), ((10 ** 399, 0), ()), ((True, 0), ()), ((0, False), ()),
    ((0,), ()), ((), ()), ((0, 0, 0), ()), ((None, 0), ()), (("0", 0), ()), ((0, "a"), ()), (("a", "b"), ()),
    ((0, 0), ("p2", "p1")), ((0, 0), ("q1", "p1")), ((0, 0), ("p1", "q1", "p1")), ((0, 0), ("p3",)), ((0, 0), ("",)),
    ((0, 0), ("p",)), ((0, 0), ("r1",)), ((0, 0), ("p1",) * 5), ((0, 0), ("p1",) * 2000), ((0, 0), (1,)),
    ((0, 0), (None,)), ((0, 0), (["p1"],)), ((0, 0), (("p1",),)), ((0, 0), "p1"), ((0, 0), None), ((0, 0), {}),
    ((0, 0), ["p1"]), ([0, 0], ("p1",)), [(0, 0), ("p1",)], ((0, 0),), ((0, 0), (), ()), (("p1",), (0, 0)),
    ({"a": 0, "b": 0}, ()), (PLAIN, ()), ((0, 0), PLAIN), ((0, [0]), ()),
]


class StateTest(NearCase):
    def test_states_that_hands_need_not_come_to(self):
        for state in STATES:
            self.assertEqual(refused(PLAIN, state), ())
            if state[1]:
                self.same(standing(PLAIN, state), (state[1], ()))
                self.assertIs(type(step(PLAIN, state, state[1][0])), tuple)

    def wrong(self, value):
        self.refuses(InvalidState, value, refused, PLAIN, value)
        self.refuses(InvalidState, value, standing, PLAIN, value)
        self.refuses(InvalidState, value, step, PLAIN, value, "p1")
        self.refuses(InvalidState, value, step, PLAIN, state=value, side=[])

    def test_no_states(self):
        for value in NO_STATES + any_values():
            self.wrong(value)
        for value in tuples_to_lists(RIGHT) + integers_to_bools(RIGHT) + parts_to_any(RIGHT):
            self.wrong(value)

    def test_a_process_without_numbers(self):
        process = make(numbers=())
        self.assertEqual(refused(process, ((), ("p1",))), ())
        for value in [((0,), ("p1",)), (None, ("p1",)), ([], ("p1",)), ("", ("p1",))]:
            self.refuses(InvalidState, value, refused, process, value)

    def test_tops(self):
        for top in [1, 2, 3]:
            process = make(numbers=[("a", top)])
            for value in range(top + 1):
                self.assertEqual(refused(process, ((value,), ("p1",))), ())
            wrong = ((top + 1,), ("p1",))
            self.refuses(InvalidState, wrong, refused, process, wrong)

    def test_an_empty_lot_has_no_standing(self):
        state = ((0, 0), ())
        self.assertEqual(refused(PLAIN, state), ())
        self.refuses(InvalidState, state, standing, PLAIN, state)
        self.refuses(NotDue, "p1", step, PLAIN, state, "p1")


class BeginTest(NearCase):
    def test_begin_states(self):
        process = make(begins=[["q2", "p2", "q1", "p2"], ["p1"], ["q1", "p1"]])
        told = [((0, 0), ("p2", "p2", "q1", "q2")), ((0, 0), ("p1",)), ((0, 0), ("p1", "q1"))]
        self.same([begin_state(process, index) for index in range(3)], told)
        self.same(begin_state(process=make(numbers=()), index=0), ((), ("p1", "q2")))
        self.same(begin_state(make(numbers=[("a", 1)]), 0), ((0,), ("p1", "q2")))

    def test_no_indices(self):
        for value in any_values() + [3, -3]:
            if type(value) is not int or value != 0:
                self.refuses(InvalidIndex, value, begin_state, PLAIN, value)
        self.refuses(InvalidIndex, 1, begin_state, PLAIN, index=1)
        process = make(begins=[["p1"]] * 3)
        for index in [0, 1, 2]:
            begin_state(process, index)
        for index in [3, -1, True, False]:
            self.refuses(InvalidIndex, index, begin_state, process, index)


class RefusedTest(NearCase):
    def told(self, condition, state):
        return refused(make(refuses=[("p1", condition)]), state) == ("p1",)

    def test_comparisons(self):
        state = ((2, 1), ("p1", "p1", "q1"))
        for right in [("is", 2, 2), ("is", "a", 2), ("is", ("due", "p1"), "a"), ("is", ("due", "p2"), 0)]:
            self.assertTrue(self.told(right, state))
        for wrong in [("is", 2, 1), ("is", "a", "b"), ("is", 1, "a"), ("is", ("due", "q1"), 2), ("is", 9, "a")]:
            self.assertFalse(self.told(wrong, state))
        for right in [("above", 3, 2), ("above", "a", "b"), ("above", ("due", "p1"), ("due", "q1")), ("above", 9, "a")]:
            self.assertTrue(self.told(right, state))
        for wrong in [("above", 2, 2), ("above", "b", "a"), ("above", ("due", "q2"), 0), ("above", "a", ("due", "p1"))]:
            self.assertFalse(self.told(wrong, state))

    def test_joined(self):
        yes, no = ("is", 0, 0), ("is", 0, 1)
        state = ((0, 0), ("p1",))
        for first in [True, False]:
            self.assertIs(self.told(("not", yes if first else no), state), not first)
            for second in [True, False]:
                pair = (yes if first else no, yes if second else no)
                self.assertIs(self.told(("both",) + pair, state), first and second)
                self.assertIs(self.told(("either",) + pair, state), first or second)

    def test_only_what_is_due_is_refused(self):
        yes, no = ("is", 0, 0), ("is", 0, 1)
        process = make(refuses=[("q2", yes), ("p1", no), ("p1", yes), ("q2", yes), ("q1", no), ("p2", yes)])
        self.assertEqual(refused(process, ((0, 0), ("p1", "p1", "q1", "q2"))), ("p1", "q2"))
        self.assertEqual(refused(process, ((0, 0), ("p2", "q1"))), ("p2",))
        self.assertEqual(refused(process, ((0, 0), ("q1", "q1"))), ())
        self.assertEqual(refused(process, ((0, 0), ())), ())
        told = standing(process=process, state=((3, 2), ("p1", "p1", "q1", "q2")))
        self.same(told, (("p1", "p1", "q1", "q2"), ("p1", "q2")))

    def test_random_ones(self):
        rng = random.Random(52)
        for _ in range(120):
            process = makers.make_process(rng, makers.make_ports(rng, 4))
            model = Model(process)
            for _ in range(8):
                state = makers.make_state(rng, process)
                told = model.refused(state)
                self.same(refused(process, state), told)
                if state[1]:
                    self.same(standing(process, state), (state[1], told))


class StepTest(NearCase):
    def after(self, steps, values=(1, 1), lot=("p1", "p1", "q2")):
        return step(make(does=[("p1", steps)]), (values, lot), "p1")[0]

    def test_one_end_goes(self):
        state = ((1, 2), ("p1", "p1", "q1", "q2"))
        self.same(step(PLAIN, state, "p1"), ((1, 2), ("p1", "q1", "q2")))
        self.same(step(PLAIN, state, "q1"), ((1, 2), ("p1", "p1", "q2")))
        self.same(step(process=PLAIN, state=state, side="q2"), ((1, 2), ("p1", "p1", "q1")))
        self.same(step(PLAIN, ((0, 0), ("q2",)), "q2"), ((0, 0), ()))
        self.assertEqual(state, ((1, 2), ("p1", "p1", "q1", "q2")))

    def test_set_add_take_within_bounds(self):
        for start in range(4):
            for amount in range(10):
                told = [self.after([(word, "a", amount)], (start, 0))[0] for word in ["set", "add", "take"]]
                self.assertEqual(told, [min(3, amount), min(3, start + amount), max(0, start - amount)])

    def test_amounts(self):
        self.assertEqual(self.after([("set", "b", "a")], (3, 0)), (3, 2))
        self.assertEqual(self.after([("set", "b", "a")], (1, 0)), (1, 1))
        self.assertEqual(self.after([("add", "a", "a")], (1, 0)), (2, 0))
        self.assertEqual(self.after([("take", "a", "a")], (3, 1)), (0, 1))
        # The end that goes does not count any more.
        self.assertEqual(self.after([("set", "a", ("due", "p1"))], (3, 0)), (1, 0))
        self.assertEqual(self.after([("add", "a", ("due", "q2"))], (1, 0)), (2, 0))
        self.assertEqual(self.after([("take", "a", ("due", "p2"))], (1, 0)), (1, 0))

    def test_in_order_with_the_values_by_then(self):
        self.assertEqual(self.after([("set", "a", 2), ("set", "b", "a"), ("set", "a", 0)], (0, 0)), (0, 2))
        self.assertEqual(self.after([("add", "a", 9), ("take", "a", 1)], (0, 0)), (2, 0))
        self.assertEqual(self.after([("take", "a", 9), ("add", "a", 1)], (3, 0)), (1, 0))

    def test_if_and_repeat(self):
        fork = [("if", ("above", "a", 1), [("set", "b", 1)], [("set", "b", 2)])]
        self.assertEqual([self.after(fork, (a, 0)) for a in range(4)], [(0, 2), (1, 2), (2, 1), (3, 1)])
        self.assertEqual(self.after([("if", ("is", "a", 1), [], [("set", "b", 2)])]), (1, 1))
        self.assertEqual(self.after([("if", ("is", "a", 0), [("set", "b", 2)], [])]), (1, 1))
        for times in range(10):
            self.assertEqual(self.after([("repeat", times, [("add", "a", 1)])], (0, 0)), (min(3, times), 0))
            down = [("repeat", times, [("if", ("is", "a", 0), [("set", "a", 3)], [("take", "a", 1)])])]
            self.assertEqual(self.after(down, (0, 0)), ((-times) % 4, 0))
        inner = ("repeat", 2, [("take", "a", 1)])
        self.assertEqual(self.after([("repeat", 2, [inner, ("add", "a", 1), ("add", "b", 1)])], (3, 0)), (1, 2))

    def test_the_end_that_goes_counts_for_conditions(self):
        steps = [("if", ("is", ("due", "p1"), 1), [("set", "a", 3)], [("set", "a", 0)])]
        self.assertEqual(self.after(steps), (3, 1))
        self.assertEqual(self.after(steps, lot=("p1", "q2")), (0, 1))

    def test_only_the_steps_of_the_side(self):
        process = make(does=[("p2", [("set", "a", 2)]), ("p1", [("set", "a", 1)]), ("q1", [])])
        state = ((0, 0), ("p1", "p2", "q1", "q2"))
        told = [step(process, state, side)[0][0] for side in state[1]]
        self.assertEqual(told, [1, 2, 0, 0])

    def test_not_due(self):
        state = ((0, 0), ("p1",))
        for side in any_values() + ["p2", "q1", "r1", ("p1",), ["p1"], "P1", PLAIN]:
            if side != "p1":
                self.refuses(NotDue, side, step, PLAIN, state, side)
        process = make(refuses=[("q1", ("is", 0, 0))])
        self.refuses(NotDue, "q1", step, process, state, "q1")

    def test_refused(self):
        process = make(refuses=[("p1", ("above", ("due", "p1"), 1))])
        state, side = ((0, 0), ("p1", "p1", "q1")), "p1"
        self.refuses(Refused, side, step, process, state, side)
        self.assertEqual(step(process, state, "q1")[1], ("p1", "p1"))
        self.assertEqual(step(process, ((0, 0), ("p1", "q1")), "p1")[1], ("q1",))
        # What is refused is told by the state ahead of the meeting, not behind it.
        process = make(refuses=[("p1", ("is", ("due", "p1"), 0))])
        self.assertEqual(step(process, ((0, 0), ("p1",)), "p1")[1], ())

    def test_random_ones(self):
        rng = random.Random(53)
        for _ in range(200):
            process = makers.make_process(rng, makers.make_ports(rng, 4))
            model = Model(process)
            for _ in range(6):
                state = makers.make_state(rng, process)
                closed = model.refused(state)
                for side in sorted(set(state[1])):
                    if side in closed:
                        self.refuses(Refused, side, step, process, state, side)
                    else:
                        self.same(step(process, state, side), model.step(state, side))


if __name__ == "__main__":
    unittest.main()
