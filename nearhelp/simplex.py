"""Linear tasks [111], [113] by the simplex method, in integers, with Bland's rule, so that it ends.

A row has its own items, and behind these an item for each of the helping columns, of which there is one for each row.
All items and sums stand for themselves divided by a common bottom. As the bottom is the item by which the last turn
was made, all of them stay integers: they are determinants of items of the task, and have no more digits than these.
"""

from nearhelp.integers import lowest, product_sum
from nearhelp.strips import Strips


class Tableau:
    """The rows of tasks, written by the columns of a basis: a solution has numbers above 0 in these alone.

    It serves tasks with the same rows whose sums, without their signs, add up to at most `most`, and the costs, too.
    The last row tells what the cost rises by with each column, and has the negative of the cost as its sum.
    """

    def __init__(self, rows, most):
        # No determinant is greater than the product of what the items of its columns add up to without their signs.
        most = max([most, len(rows)] + [_size(items) for items in zip(*rows)])
        self._strips = Strips(len(rows[0]) + len(rows), most.bit_length() * (len(rows) + 1))
        self._own = [self._strips.packed(row) - self._strips.base for row in rows]
        self.columns = len(rows[0])
        self.signs = []
        self.basis = []
        self.rows = []
        self.sums = []
        self.bottom = 1

    def begin(self, sums):
        """Begin a task, with the helping columns as the basis, and costs of 1 for these alone."""
        # A row with a sum below 0 is turned round, so that this is the basis of a solution.
        self.signs = [-1 if total < 0 else 1 for total in sums]
        self.basis = [self.columns + at for at in range(len(sums))]
        self.bottom = 1
        base = self._strips.base
        rows = [sign * own for sign, own in zip(self.signs, self._own)]
        self.rows = [base + row + (1 << self._strips.width * place) for row, place in zip(rows, self.basis)]
        self.rows.append(base - sum(rows))
        self.sums = [sign * total for sign, total in zip(self.signs, sums)]
        self.sums.append(-sum(self.sums))

    def charge(self, costs):
        """Take other costs, those of the helping columns being 0."""
        base = self._strips.base
        rises = (self._strips.packed(costs) - base) * self.bottom
        total = 0
        for place, row, number in zip(self.basis, self.rows, self.sums):
            if place < self.columns:
                rises -= costs[place] * (row - base)
                total -= costs[place] * number
        self.rows[-1], self.sums[-1] = base + rises, total

    def column_numbers(self):
        """The numbers of the columns in the solution, times the bottom."""
        numbers = [0 for _ in range(self.columns + len(self.basis))]
        for place, total in zip(self.basis, self.sums):
            numbers[place] = total
        return numbers[:self.columns]

    def settle(self):
        """Turn until no column lowers the cost of the solution."""
        entering = self._strips.first_below(self.rows[-1])
        # A helping column that has gone never comes back; these are the last ones.
        while entering is not None and entering < self.columns:
            items = self._strips.column(self.rows, entering)
            self._turn(self._leaving(items), entering, items)
            entering = self._strips.first_below(self.rows[-1])

    def prices(self, cost):
        """The integers of the rows by which no column is worth more than its cost, all of them times the bottom.

        All helping columns have the cost that is passed.
        """
        prices = []
        for at, sign in enumerate(self.signs):
            rise = self._strips.column(self.rows[-1:], self.columns + at)[0]
            prices.append(sign * (cost * self.bottom - rise))
        return prices

    def turn_helping_out(self):
        """Take all helping columns out of the basis whose rows have another item: they have no number in it."""
        for at in range(len(self.basis)):
            if self.basis[at] >= self.columns:
                self._turn_out(at)

    def _turn_out(self, at):
        for place in range(self.columns):
            items = self._strips.column(self.rows, place)
            if items[at] != 0:
                self._turn(at, place, items)
                return

    def _turn(self, at, entering, items):
        """Put a column with these items into the basis, in the place of the one of a row."""
        base, bottom, item = self._strips.base, self.bottom, items[at]
        taken, total = self.rows[at] - base, self.sums[at]
        # The bottom stays above 0: the row of a helping column without a number may have any item there.
        if item < 0:
            taken, total, item = -taken, -total, -item
        if item == bottom:
            # As below, but most items are 0 in the tasks of libraries: then the row stays as it is.
            self.rows = [row - taken * times // bottom if times != 0 else row for row, times in zip(self.rows, items)]
            self.sums = [own - total * times // bottom for own, times in zip(self.sums, items)]
        else:
            more = base * (bottom - item)
            self.rows = [(row * item - taken * times + more) // bottom for row, times in zip(self.rows, items)]
            self.sums = [(own * item - total * times) // bottom for own, times in zip(self.sums, items)]
        self.rows[at], self.sums[at], self.basis[at] = base + taken, total, entering
        self.bottom = item

    def _leaving(self, items):
        """The index of the row whose column leaves the basis: the first one to come to 0, by columns if alike."""
        best = None
        for at, item in enumerate(items[:-1]):
            if item > 0 and (best is None or self._is_sooner(at, best, items)):
                best = at
        return best

    def _is_sooner(self, at, best, items):
        own = self.sums[at] * items[best]
        other = self.sums[best] * items[at]
        return own < other or (own == other and self.basis[at] < self.basis[best])


def solved(rows, sums):
    """A solution of a task and None, or None and a denial."""
    return solved_by(Tableau(rows, _size(sums)), sums)


def solved_by(tableau, sums):
    """The same, by a tableau of the rows."""
    tableau.begin(sums)
    tableau.settle()
    if tableau.sums[-1] < 0:
        return (None, lowest([-price for price in tableau.prices(1)]))
    return (_over(tableau.column_numbers(), tableau.bottom), None)


def cheapest(rows, sums, costs):
    """A solution that costs least, and the prices of the rows that show it, of a task that has a solution."""
    tableau = Tableau(rows, max(_size(sums), sum(costs)))
    tableau.begin(sums)
    tableau.settle()
    tableau.turn_helping_out()
    tableau.charge(costs)
    tableau.settle()
    return _over(tableau.column_numbers(), tableau.bottom) + _over(tableau.prices(0), tableau.bottom)


def strict_pair(rows):
    """Any strict pair of rows [112]."""
    columns = [list(items) for items in zip(*rows)]
    tableau = Tableau(rows, 0)
    numbers = [0 for _ in columns]
    told = [0 for _ in rows]
    for at, items in enumerate(columns):
        if numbers[at] > 0 or product_sum(items, told) > 0:
            continue
        # Either this column can have a number above 0, beside others, or some integers of the rows say that it can't.
        found, denied = solved_by(tableau, [-item for item in items])
        if found is None:
            told = _added(told, denied)
        else:
            more, bottom = found
            numbers = _added(numbers, more)
            numbers[at] += bottom
    return (numbers, told)


def _added(first, second):
    return [one + other for one, other in zip(first, second)]


def _size(items):
    return sum([abs(item) for item in items])


def _over(numbers, bottom):
    """The tuple of numbers and their bottom, in the lowest terms."""
    terms = lowest(numbers + [bottom])
    return (terms[:-1], terms[-1])
