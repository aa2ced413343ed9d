"""What rows of whole numbers span, reckoned without a loss."""

from math import gcd

from fewprobes.ratios import ratio, total_of


class Span:
    """Rows that depend on none of each other, each as a dict of its numbers other than 0.

    The columns from a width on are only carried along: no row is asked for there.
    """

    def __init__(self, width):
        self.width = width
        # Each row with the column at which it is taken from others; it has
        # nothing at the columns of the rows ahead of it.
        self.rows = []

    def left_of(self, row):
        """What is left of a row, some times over, when rows of the span are taken from it."""
        rest = dict(row)
        for column, own in self.rows:
            if column in rest:
                rest = without_column(rest, own, column)
        return rest

    def spans(self, row):
        """Whether a row is one that the rows of the span make up."""
        return self.column_of(self.left_of(row)) is None

    def takes(self, row):
        """Takes a row into the span; whether it was none that the span had."""
        rest = self.left_of(row)
        column = self.column_of(rest)
        if column is None:
            return False
        self.rows.append((column, rest))
        return True

    def column_of(self, row):
        """The column at which a row is taken from others, None if it has none."""
        best = None
        for column in row:
            if column < self.width and (best is None or (abs(row[column]), column) < (abs(row[best]), best)):
                best = column
        return best

    def solved(self, numbers):
        """The fractions at all columns up to the width with which each row comes to 0.

        They are handed in for all other columns but those at which rows are taken from others.
        """
        found = dict(numbers)
        for column, row in self.rows[::-1]:
            rest = total_of([(found[other], row[other]) for other in row if other != column])
            found[column] = ratio(0 - rest[0], rest[1] * row[column])
        return found


def without_column(row, other, column):
    """A row some times over less another one some times over, so that it has nothing at a column."""
    common = gcd(row[column], other[column])
    times = other[column] // common
    less = row[column] // common
    found = dict(row) if times == 1 else {at: row[at] * times for at in row}
    for at in other:
        number = found.get(at, 0) - other[at] * less
        if number == 0:
            del found[at]
        else:
            found[at] = number
    return lowered(found) if times not in (1, -1) else found


def lowered(row):
    """A row without the greatest number by which all of its numbers can be divided."""
    common = 0
    for at in row:
        common = gcd(common, row[at])
    return row if common in (0, 1) else {at: row[at] // common for at in row}
