"""Linear tasks in integers: solutions and denials [111], strict pairs [112], least costs [113]."""

from nearhelp.checks import are_integers, is_from, is_list, is_pair
from nearhelp.errors import InvalidCosts, InvalidRows, InvalidSums, NoSolution
from nearhelp.integers import column, product_sum
from nearhelp.simplex import cheapest, solved, strict_pair


def solution(rows, sums):
    """Any solution, None if there is none."""
    _check(rows, sums)
    return solved(rows, sums)[0]


def denial(rows, sums):
    """Any denial, None if there is none."""
    _check(rows, sums)
    return solved(rows, sums)[1]


def is_solution(rows, sums, value):
    """Whether any value is a solution."""
    _check(rows, sums)
    return is_pair(value) and _is_solution(rows, sums, value[0], value[1])


def is_denial(rows, sums, value):
    """Whether any value is a denial."""
    _check(rows, sums)
    if not are_integers(value, len(rows)) or product_sum(sums, value) >= 0:
        return False
    return all([worth >= 0 for worth in _worths(rows, value)])


def strict(rows):
    """Any strict pair."""
    _check_rows(rows)
    return strict_pair(rows)


def is_strict(rows, value):
    """Whether any value is a strict pair."""
    _check_rows(rows)
    if not is_pair(value) or not _are_numbers(value[0], len(rows[0])) or not are_integers(value[1], len(rows)):
        return False
    numbers, told = value
    if not all([product_sum(row, numbers) == 0 for row in rows]):
        return False
    return all([worth >= 0 and (worth > 0) == (number == 0) for number, worth in zip(numbers, _worths(rows, told))])


def least(rows, sums, costs):
    """Any solution that costs least, with what shows that none costs less."""
    _check(rows, sums)
    _check_costs(rows, costs)
    found, denied = solved(rows, sums)
    if found is None:
        raise NoSolution(denied)
    return cheapest(rows, sums, costs)


def is_least(rows, sums, costs, value):
    """Whether any value is such a solution, with what shows that none costs less."""
    _check(rows, sums)
    _check_costs(rows, costs)
    if not isinstance(value, tuple) or len(value) != 4:
        return False
    numbers, bottom, told, scale = value
    if not _is_solution(rows, sums, numbers, bottom) or not are_integers(told, len(rows)) or not is_from(scale, 1):
        return False
    if not all([worth <= scale * cost for worth, cost in zip(_worths(rows, told), costs)]):
        return False
    return product_sum(sums, told) * bottom == scale * product_sum(numbers, costs)


def _check(rows, sums):
    _check_rows(rows)
    if not are_integers(sums, len(rows)):
        raise InvalidSums(sums)


def _check_rows(rows):
    if not _are_rows(rows):
        raise InvalidRows(rows)


def _check_costs(rows, costs):
    if not _are_numbers(costs, len(rows[0])):
        raise InvalidCosts(costs)


def _are_rows(value):
    if not is_list(value) or not value or not is_list(value[0]) or not value[0]:
        return False
    return all([are_integers(row, len(value[0])) for row in value])


def _are_numbers(value, many):
    """Whether a value is a list of so many integers from 0 on."""
    return are_integers(value, many) and all([item >= 0 for item in value])


def _is_solution(rows, sums, numbers, bottom):
    if not _are_numbers(numbers, len(rows[0])) or not is_from(bottom, 1):
        return False
    return all([product_sum(row, numbers) == bottom * total for row, total in zip(rows, sums)])


def _worths(rows, told):
    """For each column, the sum of its items, each times the integer of its row."""
    return [product_sum(column(rows, at), told) for at in range(len(rows[0]))]
