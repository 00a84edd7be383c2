"""Rows and matrices of whole numbers."""

from exactmatrices.quotients import common_divisor


def paired_total(row, other):
    """The sum of the products of what stands at the same place."""
    return sum([x * y for x, y in zip(row, other)])


def combined_row(factors, rows):
    """The sum of the rows, each times its factor."""
    result = [0] * len(rows[0])
    for factor, row in zip(factors, rows):
        result = [x + factor * y for x, y in zip(result, row)]
    return result


def whole_product(a, b):
    """a b"""
    return [combined_row(row, b) for row in a]


def grown_row(row, factor):
    return [x * factor for x in row]


def shrunk_row(row, divisor):
    """The row by a divisor of all its numbers."""
    return [x // divisor for x in row]


def row_divisor(row, number):
    """The greatest common divisor of the number and all numbers of the row."""
    result = number
    for x in row:
        result = common_divisor(x, result)
    return result


def with_added(row, place, number):
    return [x + number if k == place else x for k, x in enumerate(row)]


def with_diagonal(rows, number):
    """The rows with the number added all along the diagonal."""
    return [with_added(row, k, number) for k, row in enumerate(rows)]
