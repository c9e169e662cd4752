"""Sixteen rows, as numbers: bit x of row y is the place (x, y)."""

from studtube.refusals import NoRows

SIDE = 16
ABOVE_ROWS = 65536


def sixteen_rows(numbers):
    if len(numbers) != SIDE or max(numbers) >= ABOVE_ROWS:
        raise NoRows()
    return numbers


def bit_at(row, x):
    return (row >> x) & 1


def column(rows, x):
    return sum([bit_at(row, x) << y for y, row in enumerate(rows)])


# What's at (x, y) goes to (y, 15 - x): so each row is what was a column, the last one first.
def rows_turned(rows):
    return [column(rows, SIDE - 1 - y) for y in range(SIDE)]


def count_of_ones(row):
    return sum([bit_at(row, x) for x in range(SIDE)])


# What the shift takes beyond bit 15 meets nothing: no row of the second one has a one there.
def ones_met(a, b, first, second):
    return sum([count_of_ones((first[y] << a) & second[y + b]) for y in range(SIDE - b)])


def fitting_places(dx, dy, first, second):
    return ones_met(dx % SIDE, dy % SIDE, sixteen_rows(first), sixteen_rows(second))
