"""Rows and matrices of whole numbers."""

from exactmatrices.quotients import common_divisor


def first_place(row):
    """The first place that isn't 0; as many as there are places if all are."""
    place = 0
    while place < len(row) and row[place] == 0:
        place += 1
    return place


def paired_total(row, other):
    """The sum of the products of what stands at the same place."""
    return sum([x * y for x, y in zip(row, other)])


def combined_row(factors, rows):
    """The sum of the rows, each times its factor."""
    result = [0] * len(rows[0])
    for factor, row in zip(factors, rows):
        result = [x + factor * y for x, y in zip(result, row)]
    return result


def whole_product(a, b):
    """a b"""
    return [combined_row(row, b) for row in a]


def grown_row(row, factor):
    return [x * factor for x in row]


def shrunk_row(row, divisor):
    """The row by a divisor of all its numbers."""
    return [x // divisor for x in row]


def row_divisor(row, number):
    """The greatest common divisor of the number and all numbers of the row."""
    result = number
    for x in row:
        result = common_divisor(x, result)
    return result


def cleared_row(row, chosen, place, before):
    """The row made 0 at the place by the chosen row, by a divisor of what comes out.

    In Bareiss' elimination the divisor is what the row chosen before had at its place.
    """
    head = chosen[place]
    factor = row[place]
    return [(head * x - factor * y) // before for x, y in zip(row, chosen)]


def added_at(row, place, number):
    return [x + number if k == place else x for k, x in enumerate(row)]


def with_diagonal(rows, number):
    """The rows with the number added all along the diagonal."""
    return [added_at(row, k, number) for k, row in enumerate(rows)]
