"""The weighing that shows most, found by a simplex over whole numbers."""

from boxfew.weighings import fitting_sets


def heaviest(book):
    """Tell (weights, most): of all weighings that hold one whose weights together are most times most."""
    count = len(book[1])
    table = Table(_widest(fitting_sets(book), count), count)
    column = table.next_column()
    while column is not None:
        table.turn(table.next_row(column), column)
        column = table.next_column()
    return table.weights(), table.scale


def _widest(sets, count):
    """Tell the sets to which no further thing fits: what weighs no less than any other."""
    fits = {_mask(things): True for things in sets}
    found = []
    for things in sets:
        mask = _mask(things)
        if not any(thing not in things and (mask | 1 << thing) in fits for thing in range(count)):
            found.append(things)
    return found


def _mask(things):
    return sum(1 << thing for thing in things)


class Table:
    """A simplex table: a row for each set, weighing no more than 1, and a last one for the goal.

    All numbers in it are to be divided by scale, by which no fraction is ever needed.
    """

    def __init__(self, sets, count):
        self.count = count
        self.scale = 1
        self.rows = [[int(thing in things) for thing in range(count)] + [1] for things in sets]
        self.rows.append([-1] * count + [0])
        # The weights are named from 0 on, what the sets lack to 1 is named behind them.
        self.tops = list(range(count))
        self.sides = [count + at for at in range(len(sets))]

    def next_column(self):
        """Tell the column that makes the goal greater, None at the end."""
        goal = self.rows[-1]
        columns = [column for column in range(self.count) if goal[column] < 0]
        # Always the least name, here and in the rows, or the turns might go round without end.
        return min(columns, key=lambda column: self.tops[column], default=None)

    def next_row(self, column):
        """Tell the row that bounds a column most."""
        best = None
        for at, side in enumerate(self.sides):
            if self.rows[at][column] > 0 and (best is None or self._is_closer(at, best, column, side)):
                best = at
        return best

    def _is_closer(self, at, best, column, side):
        mine = self.rows[at][-1] * self.rows[best][column]
        its = self.rows[best][-1] * self.rows[at][column]
        return mine < its or (mine == its and side < self.sides[best])

    def turn(self, at, column):
        """Let the names of a row and a column change places."""
        main = self.rows[at]
        rows = [self._swept(row, main, column) for row in self.rows]
        rows[at] = list(main)
        rows[at][column] = self.scale
        self.rows = rows
        self.scale = main[column]
        self.tops[column], self.sides[at] = self.sides[at], self.tops[column]

    def _swept(self, row, main, column):
        pivot = main[column]
        share = row[column]
        swept = [(mine * pivot - share * other) // self.scale for mine, other in zip(row, main)]
        swept[column] = -share
        return swept

    def weights(self):
        """Tell the weights in parts of scale."""
        found = [0] * self.count
        for side, row in zip(self.sides, self.rows):
            if side < self.count:
                found[side] = row[-1]
        return found
