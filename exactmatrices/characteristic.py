"""The characteristic polynomial, by the way of Faddeev and Le Verrier."""

from exactmatrices.quotients import all_multiplied, divided_row, scale_of, whole_row
from exactmatrices.wholes import combined_row, shrunk_row, with_diagonal


def trace(rows):
    return sum([row[k] for k, row in enumerate(rows)])


def characteristic(a):
    """The coefficients of det(z - a) for a square matrix, that of power 0 first, as a row of quotients.

    With m = 1 at first, each step finds one coefficient c, from that of the power next to the greatest down:
    c = -(the trace of a m) / step, and m for the next step is a m + c. Every c and every entry of every m is a sum
    of minors of a, with signs, and each row of a enters a minor once at most. So they're whole once they are taken
    times all rows' scales, and that's how they are held here; no division leaves a rest.
    """
    size = len(a)
    scales = [scale_of(row) for row in a]
    whole = [whole_row(row, scale) for row, scale in zip(a, scales)]
    leading = all_multiplied(scales)
    found = [leading]
    m = with_diagonal([[0] * size for k in range(size)], leading)
    for step in range(1, size + 1):
        moved = [shrunk_row(combined_row(row, m), scale) for row, scale in zip(whole, scales)]
        coefficient = -trace(moved) // step
        found.append(coefficient)
        m = with_diagonal(moved, coefficient)
    found.reverse()
    return divided_row(found, leading)
