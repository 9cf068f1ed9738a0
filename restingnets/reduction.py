"""Elimination over whole numbers, with no fractions and no rounding on the way."""


class Reduced:
    """Rows after elimination: the first rank of them have the pivots, each of which is the divisor."""

    def __init__(self, rows, rank, divisor):
        self.rows = rows
        self.rank = rank
        self.divisor = divisor


def pivot_place(rows, start, column):
    """The first row from start on that has something in the column, or None."""
    for k in range(start, len(rows)):
        if rows[k][column] != 0:
            return k
    return None


def exchanged(rows, first, second):
    copied = list(rows)
    copied[first] = rows[second]
    copied[second] = rows[first]
    return copied


def cleared(row, pivot_row, column, divisor):
    """The row without the column, by means of the pivot's row."""
    pivot = pivot_row[column]
    factor = row[column]
    # Every number here is a determinant of the first rows' numbers times the divisor, so nothing is left over.
    return [(pivot * x - factor * y) // divisor for x, y in zip(row, pivot_row)]


def reduced(rows, unknowns):
    """Clears the first unknowns columns one by one; the columns behind them are carried along."""
    rank = 0
    divisor = 1
    for column in range(unknowns):
        place = pivot_place(rows, rank, column)
        if place is None:
            continue
        rows = exchanged(rows, rank, place)
        pivot_row = rows[rank]
        rows = [row if k == rank else cleared(row, pivot_row, column, divisor) for k, row in enumerate(rows)]
        divisor = pivot_row[column]
        rank += 1
    return Reduced(rows, rank, divisor)
