"""What several files work out of lists of integers."""

from math import gcd


def product_sum(first, second):
    """The sum of the items of a list, each times the item of another one with the same index."""
    return sum([one * other for one, other in zip(first, second)])


def column(rows, at):
    """The items of all rows with an index."""
    return [row[at] for row in rows]


def lowest(numbers):
    """The numbers divided by the greatest integer that divides all of them."""
    common = 0
    for number in numbers:
        common = gcd(common, number)
        if common == 1:
            return list(numbers)
    return [number // common for number in numbers] if common > 0 else list(numbers)
