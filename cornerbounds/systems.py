"""Systems of linear equations, solved in whole numbers."""

from cornerbounds.points import lowest_point


def first_filled(numbers):
    """The place of the first number that isn't 0, or None."""
    for place, number in enumerate(numbers):
        if number != 0:
            return place
    return None


class System:
    """Independent equations, solved for as many variables.

    An equation is a row of coefficients with the negated right side behind them. Row k has pivot at
    columns[k] and 0 at the other columns, so it gives that variable by those that aren't solved for.
    """

    def __init__(self, pivot, columns, rows):
        self.pivot = pivot
        self.columns = columns
        self.rows = rows

    def reduced(self, equation):
        """The equation times pivot, without the variables that are solved for."""
        rest = [self.pivot * number for number in equation]
        for column, row in zip(self.columns, self.rows):
            factor = equation[column]
            if factor != 0:
                rest = [a - factor * b for a, b in zip(rest, row)]
        return rest

    def cleared(self, row, rest, column):
        """The row without the variable that rest is now solved for, with the new pivot in the old one's place."""
        pivot = rest[column]
        factor = row[column]
        # All entries are minors of the first equations, so the old pivot divides without a rest.
        return [(pivot * a - factor * b) // self.pivot for a, b in zip(row, rest)]

    def with_equation(self, equation):
        """A system with one more equation, or None if its coefficients depend on those that are there."""
        rest = self.reduced(equation)
        column = first_filled(rest[:-1])
        if column is None:
            return None
        rows = [self.cleared(row, rest, column) for row in self.rows]
        return System(rest[column], self.columns + [column], rows + [rest])

    def solution(self):
        """The only solution, when there are as many equations as variables."""
        numbers = [0] * len(self.columns) + [self.pivot]
        for column, row in zip(self.columns, self.rows):
            numbers[column] = -row[-1]
        return lowest_point(numbers)
