"""Matrices as whole numbers over one bottom, for long products.

Lowest terms of each entry are dear, and are sought once, at the end. What is sought on the way is only what all
entries have in common with the bottom.
"""

from exactmatrices.quotients import common_divisor, lowest_by_base, scale_of, scale_of_all, whole_row
from exactmatrices.wholes import combined_row, grown_row, row_divisor, shrunk_row, whole_product


class Scaled:

    def __init__(self, rows, bottom, base):
        """A matrix of quotients.

        rows: the matrix times bottom, whole numbers
        bottom: a whole number above 0
        base: a whole number above 0 that each prime factor of bottom divides
        """
        self.rows = rows
        self.bottom = bottom
        self.base = base


class Factor:

    def __init__(self, parts, scales, base):
        """A matrix that others are multiplied by: each row with a scale of its own, which keeps its numbers small.

        parts: the matrix's rows, each times its scale, whole numbers
        scales: a whole number above 0 for each row
        base: a multiple of all scales
        """
        self.parts = parts
        self.scales = scales
        self.base = base


def rows_divisor(rows, number):
    """The greatest common divisor of the number and all numbers of the rows."""
    result = number
    for row in rows:
        result = row_divisor(row, result)
    return result


def without_common(rows, bottom, base):
    """The matrix of the rows by bottom, without what all its numbers have in common with the bottom."""
    common = rows_divisor(rows, common_divisor(bottom, base))
    while common != 1:
        rows = [shrunk_row(row, common) for row in rows]
        bottom = bottom // common
        # What is still in common has no other prime factors than what was taken out last.
        common = rows_divisor(rows, common_divisor(bottom, common))
    return Scaled(rows, bottom, base)


def scaled_from(a):
    base = scale_of_all(a)
    return Scaled([whole_row(row, base) for row in a], base, base)


def factor_from(a):
    scales = [scale_of(row) for row in a]
    parts = [whole_row(row, scale) for row, scale in zip(a, scales)]
    return Factor(parts, scales, scale_of_all(a))


def lowest_row(row, bottom, base):
    return [lowest_by_base(x, bottom, base) for x in row]


def quotients_from(scaled):
    """The matrix with each entry in lowest terms."""
    return [lowest_row(row, scaled.bottom, scaled.base) for row in scaled.rows]


def squared(x):
    """x x"""
    return without_common(whole_product(x.rows, x.rows), x.bottom * x.bottom, x.base)


def moved_part(part, scale, x):
    """The row of the product that a factor's row makes, times x's bottom and base."""
    return grown_row(combined_row(part, x.rows), x.base // scale)


def moved(factor, x):
    """The factor times x, which has the same base."""
    rows = [moved_part(part, scale, x) for part, scale in zip(factor.parts, factor.scales)]
    return without_common(rows, x.bottom * x.base, x.base)
