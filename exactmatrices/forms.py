"""How many squares of each sign a form x' a x has, as a sum of squares of independent linear forms with factors.

One square is taken out after another; what is left is a form in one unknown less.
"""

from exactmatrices.quotients import scale_of_all, whole_row
from exactmatrices.wholes import added_at, cleared_row, combined_row, first_place


def diagonal_place(rows):
    """The first place on the diagonal that isn't 0; as many as there are rows if all are."""
    return first_place([row[k] for k, row in enumerate(rows)])


def joined(rows, place, other):
    """The form with the row and the column at other added to those at place."""
    taller = [combined_row([1, 1], [row, rows[other]]) if k == place else row for k, row in enumerate(rows)]
    return [added_at(row, place, row[other]) for row in taller]


def with_square(rows):
    """A form with as many squares of each sign, and something on the diagonal, if the form isn't 0."""
    if diagonal_place(rows) < len(rows):
        return rows
    for k, row in enumerate(rows):
        other = first_place(row)
        if other < len(row):
            # Both places on the diagonal are 0, so that the sum there is twice the entry beside it.
            return joined(rows, k, other)
    return rows


def without_place(row, place):
    return row[:place] + row[place + 1:]


def without_square(rows, place, before):
    """What is left of the form without the unknown at place.

    The form is held times before, what is left of it times its entry at place: so all numbers are minors of the form
    at the beginning, and whole (Bareiss).
    """
    chosen = rows[place]
    return [without_place(cleared_row(row, chosen, place, before), place) for row in without_place(rows, place)]


def signs_of(a):
    """How many factors are above 0, how many below, how many are missing to as many as rows."""
    base = scale_of_all(a)
    rows = with_square([whole_row(row, base) for row in a])
    # What the form that is left is held times of.
    before = 1
    above = 0
    below = 0
    place = diagonal_place(rows)
    while place < len(rows):
        head = rows[place][place]
        if (head > 0) == (before > 0):
            above += 1
        else:
            below += 1
        rows = with_square(without_square(rows, place, before))
        before = head
        place = diagonal_place(rows)
    return [above, below, len(a) - above - below]
