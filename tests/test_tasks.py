"""[111] solutions, [112] strict pairs, [113] least costs."""

import random
import unittest

from nearhelp.errors import InvalidCosts, InvalidRows, InvalidSums, NearError, NoSolution
from nearhelp.tasks import denial, is_denial, is_least, is_solution, is_strict, least, solution, strict
from tests import judges
from tests.helpers import NearCase, any_values, integers_to_bools, one_changed
from tests.judged import JudgedCase, digits

ROWS, SUMS, COSTS = [[1, 2, 0], [1, -1, 3]], [5, -1], [2, 0, 1]
# Values that are no list of integers in any place of one.
NO_LISTS = [None, True, False, 0, 1, "", "12", {}, {1: 1}, {"a": 1}, [None], ["1"], [True], [False, 1], [[1]], [(1,)], [1, None]]


def make_rows(rng, many, wide, top):
    share = rng.choice([0.3, 0.6, 1])
    return [[rng.randint(-top, top) if rng.random() < share else 0 for _ in range(wide)] for _ in range(many)]


def make_task(rng):
    """Rows and sums: half of them have a solution at least."""
    top = rng.choice([1, 2, 9])
    rows = make_rows(rng, rng.randint(1, 12), rng.randint(1, 30), top)
    if rng.random() < 0.5:
        return rows, [rng.randint(-top, top) for _ in rows]
    numbers = [rng.choice([0, 0, 1, 2]) for _ in rows[0]]
    return rows, [judges.dot(row, numbers) for row in rows]


class TasksCase(JudgedCase):
    def task_judged(self, rows, sums):
        """Either a solution or a denial of a task is right; tell whether it is a solution."""
        told = repr([rows, sums])
        found, denied = solution(rows, sums), denial(rows, sums)
        self.assertEqual([found is None, denied is None].count(True), 1)
        if found is None:
            self.assertTrue(judges.is_denial(rows, sums, denied) and is_denial(rows=rows, sums=sums, value=denied))
            self.assertIs(type(denied), list)
        else:
            self.assertTrue(judges.is_solution(rows, sums, found) and is_solution(rows=rows, sums=sums, value=found))
            self.assertEqual([type(found), type(found[0])], [tuple, list])
        self.assertLess(digits(denied if found is None else found), 301)
        self.assertEqual(repr([rows, sums]), told)
        return denied is None

    def least_judged(self, rows, sums, costs):
        told = repr([rows, sums, costs])
        found = least(rows, sums, costs)
        self.assertTrue(judges.is_least(rows, sums, costs, found))
        self.assertTrue(is_least(rows=rows, sums=sums, costs=costs, value=found))
        self.assertEqual([type(item) for item in found], [list, int, list, int])
        self.assertLess(digits(found), 301)
        self.assertEqual(repr([rows, sums, costs]), told)
        return found

    def strict_judged(self, rows):
        told = repr(rows)
        found = strict(rows)
        self.assertTrue(judges.is_strict(rows, found) and is_strict(rows=rows, value=found))
        self.assertEqual([type(found), type(found[0]), type(found[1])], [tuple, list, list])
        self.assertLess(digits(found), 301)
        self.assertEqual(repr(rows), told)
        return found


class WrongTest(NearCase):
    def calls(self):
        """All functions, as functions of rows, sums and costs."""
        return [
            lambda rows, sums, costs: solution(rows=rows, sums=sums), lambda rows, sums, costs: denial(rows, sums),
            lambda rows, sums, costs: is_solution(rows, sums, None), lambda rows, sums, costs: is_denial(rows, sums, None),
            lambda rows, sums, costs: least(rows, sums, costs), lambda rows, sums, costs: is_least(rows, sums, costs, None),
            lambda rows, sums, costs: strict(rows), lambda rows, sums, costs: is_strict(rows=rows, value=None),
        ]

    def test_rows(self):
        wrong = any_values() + [[[1], []], [[], []], [[1, 2], [1]], [[1], [1, 2]], [[1], 1], [1], [[1], None], [[1], {}]]
        wrong += [[row] for row in NO_LISTS + [[]]] + [[[1, 2], row] for row in NO_LISTS] + [{"a": [1]}, "1", [["1"]]]
        wrong += integers_to_bools(ROWS) + one_changed(ROWS, lambda item: [None, "1", (), [[]]])
        for rows in wrong:
            for call in self.calls():
                self.refuses(InvalidRows, rows, call, rows, None, None)
                self.refuses(InvalidRows, rows, call, rows, SUMS, COSTS)

    def test_sums(self):
        wrong = any_values() + NO_LISTS + [[1], [1, 2, 3], (5,), [[5, -1]]] + integers_to_bools(SUMS)
        for sums in wrong:
            for call in self.calls()[:6]:
                self.refuses(InvalidSums, sums, call, ROWS, sums, None)
                self.refuses(InvalidSums, sums, call, tuple(ROWS), sums, COSTS)

    def test_costs(self):
        wrong = any_values() + NO_LISTS + [[2, 0], [2, 0, 1, 1], [2, 0, -1], [-1, 0, 0], [[2, 0, 1]]]
        for costs in wrong + integers_to_bools(COSTS):
            for call in self.calls()[4:6]:
                self.refuses(InvalidCosts, costs, call, ROWS, SUMS, costs)
                self.refuses(InvalidCosts, costs, call, [[1, 1, 1]], [-1], costs)

    def test_no_solution(self):
        for rows, sums in [([[1, 1]], [-1]), ([[0]], [1]), ([[1], [1]], [0, 1]), ([[2, -2], [1, -1]], [2, 2])]:
            seen = []
            for _ in range(2):
                with self.assertRaises(NearError) as caught:
                    least(rows, sums, [0] * len(rows[0]))
                self.assertIs(type(caught.exception), NoSolution)
                seen.append(caught.exception.denial)
                self.assertTrue(judges.is_denial(rows, sums, seen[-1]))
            self.assertEqual([type(item) for item in seen], [list, list])
            self.assertEqual(seen[0], seen[1])
            self.assertIsNot(seen[0], seen[1])
            self.assertIs(is_least(rows, sums, [0] * len(rows[0]), ([0] * len(rows[0]), 1, [0] * len(rows), 1)), False)


class SolutionTest(TasksCase):
    def test_none_one_and_many(self):
        for rows, sums, wanted in [
            ([[1]], [0], ([0], 1)), ([[1]], [7], ([7], 1)), ([[-2]], [-3], ([3], 2)), ([[2, 3], [4, -6]], [12, 0], ([3, 2], 1)),
            ([[1, 1], [1, -1]], [3, 0], ([3, 3], 2)), ([[0, 1], [1, 0]], [0, 4], ([4, 0], 1)),
        ]:
            self.assertTrue(self.task_judged(rows, sums))
            numbers, bottom = solution(rows, sums)
            self.assertEqual([number * wanted[1] for number in numbers], [number * bottom for number in wanted[0]])
        for rows, sums in [([[1]], [-1]), ([[0]], [1]), ([[0, 0]], [-9]), ([[1, 2], [2, 4]], [1, 3]), ([[1, -1], [-1, 1]], [1, 1])]:
            self.assertFalse(self.task_judged(rows, sums))
        for rows, sums in [([[0]], [0]), ([[1, -1]], [0]), ([[1, -1]], [-5]), ([[1, 2, 3], [2, 4, 6]], [6, 12])]:
            self.assertTrue(self.task_judged(rows, sums))

    def test_random_tasks(self):
        rng, found = random.Random(111), []
        for _ in range(300):
            found.append(self.task_judged(*make_task(rng)))
        self.assertTrue(60 < sum(found) < 240)

    def test_thirty_columns_and_greater_items(self):
        rng = random.Random(1111)
        for top in [9, 10 ** 6]:
            for many, wide in [(1, 1), (1, 30), (12, 30), (12, 1), (12, 12), (20, 45)]:
                rows = make_rows(rng, many, wide, top)
                self.assertTrue(self.task_judged(rows, [sum(row) for row in rows]))
                self.task_judged(rows, [rng.randint(-top, top) for _ in rows])

    def test_tasks_on_which_careless_turns_never_end(self):
        tasks = [
            ([[-1, 3, 4, -5, 2, 0, 5], [2, -5, 4, -5, -4, -1, 0], [-4, 0, 4, 3, -5, 4, -5], [-5, 0, 5, -3, 3, 5, 5]], [0] * 4),
            ([[-2, 4, -3, 6, -7, 6, -2, 0, -3], [0, 0, -4, 4, -2, -6, -2, 5, 3], [9, -2, -1, 9, -9, -9, 3, -9, -5],
              [2, 2, -5, 1, -6, -8, -4, 9, 9], [0, -6, 0, -9, -5, 1, 0, -2, 9]], [0] * 5),
            ([[2, 0, -2, -5, -4, -4, 4, 5], [-3, 5, -2, 2, 5, -5, -3, 5], [3, -2, -3, 5, 0, -4, 3, -4],
              [-3, 0, -5, -2, 3, -1, -1, 5], [1] * 8], [0, 0, 0, 0, 1]),
            ([[9, -2, 0, -9, 6, 9, 9, -7, -2], [-4, -4, 2, -1, 8, -3, -5, -9, 2], [-1, 3, 1, -9, 8, 8, -7, 3, -8],
              [-7, -1, -7, -9, 2, 3, 2, 2, 9], [1] * 9], [0, 0, 0, 0, 1]),
            ([[2, 1, 1, 3, 2, -1, -2, 0, -2], [2, 2, -3, 3, -3, -2, -2, 1, -2], [2, 1, 0, 1, -3, 0, 1, -3, -3],
              [2, -1, 3, 0, 1, 1, -1, 2, -1], [2, -3, -2, 0, 0, -1, -2, 2, 2]], [0] * 5),
        ]
        for rows, sums in tasks:
            self.task_judged(rows, sums)
            self.strict_judged(rows)

    def test_a_bottom_of_zero(self):
        self.assertIs(is_solution([[1, 2]], [3], ([0, 0], 0)), False)
        self.assertIs(is_solution([[1, -1]], [3], ([1, 1], 0)), False)
        self.assertIs(is_least([[1, 2]], [3], [1, 1], ([0, 0], 0, [0], 1)), False)
        self.assertIs(is_least([[1, 2]], [3], [1, 1], ([3, 0], 1, [0], 0)), False)

    def test_judged(self):
        cases = [([[1, 2], [1, -1]], [5, -1]), ([[2, 3]], [1]), ([[1, 0, 3], [0, 2, 1], [1, 1, 1]], [4, 3, 3])]
        for rows, sums in cases:
            for told in [(rows, sums), judges.as_tuples((rows, sums))]:
                self.judged(lambda value: is_solution(*told, value), lambda value: judges.is_solution(rows, sums, value), solution(rows, sums))
        for rows, sums in [([[1, 1], [1, 0]], [1, 2]), ([[2, 3, 0], [4, 6, 1], [1, 1, -1]], [1, 1, 1])]:
            for told in [(rows, sums), judges.as_tuples((rows, sums))]:
                self.judged(lambda value: is_denial(*told, value), lambda value: judges.is_denial(rows, sums, value), denial(rows, sums))

    def test_solutions_with_great_numbers(self):
        rows, sums, great = [[3, -2, 1]], [1], 10 ** 398
        self.assertTrue(is_solution(rows, sums, ([2 * great, 3 * great, great], great)))
        self.assertTrue(is_solution(rows, sums, ([2 * great, 3 * great, 1], 1)))
        self.assertFalse(is_solution(rows, sums, ([2 * great, 3 * great, 2], 1)))
        self.assertTrue(is_denial([[3, -3]], [1], [0]) is False)
        self.assertTrue(is_denial([[3], [-2]], [1, -1], [2 * great, 3 * great]))
        self.assertFalse(is_denial([[3], [-2]], [1, -1], [2 * great, 3 * great + 1]))

    def test_lists_are_new_and_equal(self):
        for call, args in [(solution, (ROWS, [5, 5])), (strict, ([[1, -1]],)), (least, (ROWS, [5, 5], COSTS))]:
            first, second, third = call(*args), call(*args), call(*judges.as_tuples(args))
            self.same(first, second)
            self.same(first, third)
            for item in first:
                if isinstance(item, list):
                    item.clear()
            self.same(call(*args), second)
        self.new_lists(lambda: denial([[1]], [-1]))
        self.same(denial(((1,),), (-1,)), denial([[1]], [-1]))


class StrictTest(TasksCase):
    def test_which_numbers_are_above_zero(self):
        for rows, wanted in [
            ([[1, -1]], [1, 1]), ([[1, 1]], [0, 0]), ([[0]], [1]), ([[1]], [0]), ([[0, 2], [0, 0]], [1, 0]),
            ([[1, -1, 0], [0, 1, 1]], [0, 0, 0]), ([[1, -1, 0], [0, 0, 1]], [1, 1, 0]), ([[1, -1, 1]], [1, 1, 1]),
            ([[1, 1, -2, 0], [1, -1, 0, 0], [0, 0, 1, -1]], [1, 1, 1, 1]),
            ([[1, 1, -2, 0], [1, -1, 0, 0], [0, 0, 1, 1]], [0, 0, 0, 0]),
        ]:
            numbers, _ = self.strict_judged(rows)
            self.assertEqual([int(number > 0) for number in numbers], wanted)

    def test_random_rows(self):
        rng, kinds = random.Random(112), set()
        for _ in range(200):
            rows = make_rows(rng, rng.randint(1, 12), rng.randint(1, 30), rng.choice([1, 2, 9]))
            numbers, _ = self.strict_judged(rows)
            kinds.add((min(numbers) > 0, max(numbers) > 0))
        self.assertEqual(kinds, {(False, False), (False, True), (True, True)})
        self.strict_judged(make_rows(rng, 12, 30, 9))
        self.strict_judged(make_rows(rng, 20, 45, 10 ** 6))

    def test_judged(self):
        for rows in [[[1, -1, 0], [0, 1, 1]], [[1, -1, 1]], [[1, -1, 0], [0, 0, 1]], [[2, -3, 1, 0], [0, 1, -1, 1]]]:
            for told in [rows, judges.as_tuples(rows)]:
                self.judged(lambda value: is_strict(told, value), lambda value: judges.is_strict(rows, value), strict(rows))
        great = 10 ** 399
        self.assertTrue(is_strict([[1, -1, 0], [0, 0, 1]], ([great, great, 0], [-great + great, great])))
        self.assertFalse(is_strict([[1, -1, 0], [0, 0, 1]], ([great, great - 1, 0], [0, great])))


class LeastTest(TasksCase):
    def test_costs(self):
        for rows, sums, costs, wanted in [
            ([[1, 1]], [3], [2, 1], (3, 1)), ([[1, 1]], [3], [0, 0], (0, 1)), ([[1, 1]], [3], [5, 5], (15, 1)),
            ([[2, 3]], [1], [3, 4], (4, 3)), ([[1, -1]], [2], [1, 1], (2, 1)), ([[1, -1]], [0], [0, 7], (0, 1)),
            ([[1, 1, 0], [0, 1, 1]], [4, 4], [1, 3, 1], (8, 1)), ([[1, 1, 0], [0, 1, 1]], [4, 4], [2, 3, 2], (12, 1)),
            ([[1, 2], [2, 4], [0, 0]], [4, 8, 0], [1, 1], (2, 1)), ([[1, 0], [1, 0]], [1, 1], [9, 9], (9, 1)),
        ]:
            numbers, bottom, told, scale = self.least_judged(rows, sums, costs)
            self.assertEqual(judges.dot(numbers, costs) * wanted[1], wanted[0] * bottom)
            self.assertEqual(judges.dot(sums, told) * wanted[1], wanted[0] * scale)

    def test_random_tasks(self):
        rng, found = random.Random(113), 0
        for _ in range(250):
            rows, sums = make_task(rng)
            costs = [rng.randint(0, 9) for _ in rows[0]]
            if solution(rows, sums) is None:
                with self.assertRaises(NoSolution) as caught:
                    least(rows, sums, costs)
                self.assertTrue(judges.is_denial(rows, sums, caught.exception.denial))
                continue
            found += 1
            self.least_judged(rows, sums, costs)
        self.assertGreater(found, 100)

    def test_small_tasks_of_whose_solutions_few_numbers_are_above_zero(self):
        rng = random.Random(1132)
        for rows, sums, costs in [
            ([[0, -2], [-1, -3]], [0, -1], [4, 2]), ([[0, -3, 0], [1, -2, -1]], [0, -1], [4, 3, 3]),
            ([[0, 1, -2], [-1, 0, -1], [2, 2, 1]], [-1, -1, 3], [1, 4, 1]),
        ]:
            self.least_judged(rows, sums, costs)
        for _ in range(1500):
            rows = make_rows(rng, rng.randint(1, 4), rng.randint(2, 6), 3)
            numbers = [rng.choice([0, 0, 1]) for _ in rows[0]]
            sums = [judges.dot(row, numbers) for row in rows]
            self.least_judged(rows, sums, [rng.randint(0, 4) for _ in numbers])

    def test_rows_that_say_the_same(self):
        rng = random.Random(1131)
        for _ in range(60):
            rows = make_rows(rng, 3, rng.randint(2, 12), 3)
            rows += [[a + b for a, b in zip(rows[0], rows[1])], [-2 * a for a in rows[2]], [0] * len(rows[0])]
            rng.shuffle(rows)
            numbers = [rng.choice([0, 0, 1, 3]) for _ in rows[0]]
            sums = [judges.dot(row, numbers) for row in rows]
            self.assertTrue(self.task_judged(rows, sums))
            self.least_judged(rows, sums, [rng.randint(0, 3) for _ in numbers])

    def test_judged(self):
        for rows, sums, costs in [
            ([[1, 1]], [3], [2, 1]), ([[2, 3, 0], [0, 1, 1]], [1, 2], [3, 4, 1]), ([[1, 1]], [3], [0, 0]),
            ([[1, 1], [1, -1]], [2, 0], [1, 1]), ([[1, 1], [1, -1]], [0, 0], [1, 1]),
        ]:
            for told in [(rows, sums, costs), judges.as_tuples((rows, sums, costs))]:
                self.judged(
                    lambda value: is_least(*told, value), lambda value: judges.is_least(rows, sums, costs, value),
                    least(rows, sums, costs),
                )
        # The sums say that this costs as little as any, but a column is worth more than its cost.
        self.assertTrue(is_least([[1, 1], [1, -1]], [2, 0], [1, 1], ([1, 1], 1, [1, 0], 1)))
        self.assertFalse(is_least([[1, 1], [1, -1]], [2, 0], [1, 1], ([1, 1], 1, [1, 5], 1)))
        self.assertFalse(is_least([[1, 1]], [3], [2, 1], ([3, 0], 1, [2], 1)))
        great = 10 ** 399
        self.assertTrue(is_least([[1, 1]], [3], [2, 1], ([0, 3 * great], great, [great], great)))
        self.assertFalse(is_least([[1, 1]], [3], [2, 1], ([0, 3 * great], great, [great], great + 1)))
        self.assertFalse(is_least([[1, 1]], [3], [2, 1], ([0, 3 * great], great, [great], -great)))


if __name__ == "__main__":
    unittest.main()
