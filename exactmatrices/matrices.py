"""Matrices made of matrices entry by entry, row by row; no shape is checked here."""

from exactmatrices.quotients import minus, paired_sum, plus


def added_rows(row, other):
    return [plus(x, y) for x, y in zip(row, other)]


def added(a, b):
    """a + b"""
    return [added_rows(row, other) for row, other in zip(a, b)]


def subtracted_rows(row, other):
    return [minus(x, y) for x, y in zip(row, other)]


def subtracted(a, b):
    """a - b"""
    return [subtracted_rows(row, other) for row, other in zip(a, b)]


def column_of(a, column):
    return [row[column] for row in a]


def turned(a):
    """a turned about: its columns as rows."""
    return [column_of(a, column) for column in range(len(a[0]))]


def times_columns(row, columns):
    return [paired_sum(row, column) for column in columns]


def product(a, b):
    """a b"""
    columns = turned(b)
    return [times_columns(row, columns) for row in a]


def beside(a, b):
    return [row + other for row, other in zip(a, b)]


def above(a, b):
    return a + b


def is_square(a):
    return len(a) == len(a[0])


def part_of(a, row, rows, column, columns):
    """So many rows from row on, so many columns from column on, counted from 0."""
    return [chosen[column:column + columns] for chosen in a[row:row + rows]]


def unit_row(size, place):
    return [(1, 1) if k == place else (0, 1) for k in range(size)]


def unit(size):
    """The square matrix with 1 on the diagonal and 0 elsewhere."""
    return [unit_row(size, place) for place in range(size)]
