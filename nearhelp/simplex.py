"""Linear tasks [111], [113] by the simplex method, in integers, with Bland's rule, so that it ends.

A row has its own items, an item for each of the helping columns, of which there is one for each row, and its sum.
All items stand for themselves divided by a common bottom. As the bottom is the item by which the last turn was made,
all of them stay integers: they are determinants of items of the task, and have no more digits than these.
"""

from nearhelp.integers import column, lowest, product_sum


class Tableau:
    """The rows of a task, written by the columns of a basis: a solution has numbers above 0 in these alone."""

    def __init__(self, rows, sums):
        # A row with a sum below 0 is turned round, so that the helping columns are the first basis.
        self.signs = [-1 if total < 0 else 1 for total in sums]
        self.columns = len(rows[0])
        self.basis = [self.columns + at for at in range(len(rows))]
        self.bottom = 1
        self.rows = []
        for at, sign in enumerate(self.signs):
            helping = [1 if place == at else 0 for place in range(len(rows))]
            self.rows.append([sign * item for item in rows[at]] + helping + [sign * sums[at]])

    def excess(self):
        """What the helping columns have in the solution, all together, times the bottom: 0 if it solves the task."""
        return sum([row[-1] for place, row in zip(self.basis, self.rows) if place >= self.columns])

    def column_numbers(self):
        """The numbers of the columns in the solution, times the bottom."""
        numbers = [0 for _ in range(self.columns + len(self.rows))]
        for place, row in zip(self.basis, self.rows):
            numbers[place] = row[-1]
        return numbers[:self.columns]

    def settle(self, costs):
        """Turn until no column lowers the cost of the solution, the costs being those of all columns."""
        entering = self._entering(costs)
        while entering is not None:
            self.turn(self._leaving(entering), entering)
            entering = self._entering(costs)

    def prices(self, costs):
        """The integers of the rows by which no column is worth more than its cost, all of them times the bottom."""
        prices = []
        for at, sign in enumerate(self.signs):
            helping = self.columns + at
            prices.append(sign * (costs[helping] * self.bottom - self._rise(costs, helping)))
        return prices

    def turn(self, at, entering):
        """Put a column into the basis, in the place of the one of a row."""
        # The bottom stays above 0: the row of a helping column without a number may have any item there.
        sign = -1 if self.rows[at][entering] < 0 else 1
        taken = [sign * item for item in self.rows[at]]
        item = taken[entering]
        self.rows = [self._turned(row, row[entering], taken, item) for row in self.rows]
        self.rows[at] = taken
        self.basis[at] = entering
        self.bottom = item

    def turn_helping_out(self):
        """Take all helping columns out of the basis whose rows have another item: they have no number in it."""
        for at in range(len(self.rows)):
            found = [place for place in range(self.columns) if self.rows[at][place] != 0]
            if self.basis[at] >= self.columns and found:
                self.turn(at, found[0])

    def _turned(self, row, times, taken, item):
        return [(own * item - other * times) // self.bottom for own, other in zip(row, taken)]

    def _rise(self, costs, place):
        """What the cost rises by with each number more of a column, times the bottom."""
        return costs[place] * self.bottom - product_sum([costs[own] for own in self.basis], column(self.rows, place))

    def _entering(self, costs):
        """The first column that lowers the cost; a helping column that has gone never comes back."""
        for place in range(self.columns):
            if self._rise(costs, place) < 0:
                return place
        return None

    def _leaving(self, entering):
        """The index of the row whose column leaves the basis: the first one to come to 0, by columns if alike."""
        best = None
        for at, row in enumerate(self.rows):
            if row[entering] > 0 and (best is None or self._is_sooner(at, best, entering)):
                best = at
        return best

    def _is_sooner(self, at, best, entering):
        own = self.rows[at][-1] * self.rows[best][entering]
        other = self.rows[best][-1] * self.rows[at][entering]
        return own < other or (own == other and self.basis[at] < self.basis[best])


def solved(rows, sums):
    """A solution of a task and None, or None and a denial."""
    costs = _helping_costs(rows)
    tableau = Tableau(rows, sums)
    tableau.settle(costs)
    if tableau.excess() > 0:
        return (None, lowest([-price for price in tableau.prices(costs)]))
    return (_over(tableau.column_numbers(), tableau.bottom), None)


def cheapest(rows, sums, costs):
    """A solution that costs least, and the prices of the rows that show it, of a task that has a solution."""
    tableau = Tableau(rows, sums)
    tableau.settle(_helping_costs(rows))
    tableau.turn_helping_out()
    all_costs = list(costs) + [0 for _ in rows]
    tableau.settle(all_costs)
    return _over(tableau.column_numbers(), tableau.bottom) + _over(tableau.prices(all_costs), tableau.bottom)


def _helping_costs(rows):
    return [0 for _ in rows[0]] + [1 for _ in rows]


def _over(numbers, bottom):
    """The tuple of numbers and their bottom, in the lowest terms."""
    terms = lowest(numbers + [bottom])
    return (terms[:-1], terms[-1])
