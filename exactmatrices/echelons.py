"""Elimination, and what is read off from it: reduced echelon, rank, kernel, determinant, inverse."""

from exactmatrices.matrices import beside, turned, unit, unit_row
from exactmatrices.quotients import all_multiplied, divided_row, lowest, scale_of, whole_row
from exactmatrices.wholes import cleared_row


class Elimination:

    def __init__(self, rows, begins, lead, sign):
        """What elimination leaves of a matrix of whole numbers.

        rows: the reduced echelon's rows times lead, which isn't 0
        begins: the columns in which these rows begin, from the first row on
        sign: 1 or -1, as the number of exchanges of two rows was even or odd
        """
        self.rows = rows
        self.begins = begins
        self.lead = lead
        self.sign = sign


def row_to_begin(rows, place, column):
    """The first row from place on that isn't 0 in the column; as many as there are rows if there's none."""
    k = place
    while k < len(rows) and rows[k][column] == 0:
        k += 1
    return k


def exchanged(rows, place, other):
    result = list(rows)
    result[place] = rows[other]
    result[other] = rows[place]
    return result


def cleared(rows, place, column, lead):
    """The rows made 0 in the column, all but the one at place."""
    chosen = rows[place]
    return [row if k == place else cleared_row(row, chosen, column, lead) for k, row in enumerate(rows)]


def eliminated(rows):
    """Elimination in a matrix of whole numbers.

    Every number met is, but for its sign, a minor of the matrix. That's why the division by the lead of the step
    before leaves no rest (Bareiss), why numbers stay small without any lowest terms, and why lead is at the end
    the determinant, but for its sign, where every column has a row that begins in it.
    """
    begins = []
    lead = 1
    sign = 1
    for column in range(len(rows[0])):
        place = len(begins)
        found = row_to_begin(rows, place, column)
        if found < len(rows):
            if found != place:
                rows = exchanged(rows, place, found)
                sign = -sign
            rows = cleared(rows, place, column, lead)
            lead = rows[place][column]
            begins.append(column)
    return Elimination(rows, begins, lead, sign)


def eliminated_from(a):
    """Elimination in a; a row times a number that isn't 0 changes nothing in the echelon."""
    return eliminated([whole_row(row, scale_of(row)) for row in a])


def reduced_echelon(a):
    done = eliminated_from(a)
    return [divided_row(row, done.lead) for row in done.rows]


def rank_of(a):
    return len(eliminated_from(a).begins)


def kernel_column(done, size, free):
    """The column of the kernel that has 1 at the free place."""
    column = unit_row(size, free)
    for k, begin in enumerate(done.begins):
        column[begin] = lowest(-done.rows[k][free], done.lead)
    return column


def kernel(a):
    """The kernel; None if no column is free."""
    done = eliminated_from(a)
    size = len(a[0])
    columns = [kernel_column(done, size, k) for k in range(size) if k not in done.begins]
    if columns == []:
        return None
    return turned(columns)


def determinant(a):
    """The determinant of a square matrix, as a quotient."""
    scales = [scale_of(row) for row in a]
    done = eliminated([whole_row(row, scale) for row, scale in zip(a, scales)])
    if len(done.begins) < len(a):
        return (0, 1)
    return lowest(done.sign * done.lead, all_multiplied(scales))


def inverse(a):
    """The inverse of a square matrix; None if there's none."""
    size = len(a)
    done = eliminated_from(beside(a, unit(size)))
    if done.begins != list(range(size)):
        return None
    return [divided_row(row[size:], done.lead) for row in done.rows]
