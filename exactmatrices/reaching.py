"""What can be reached: the rank of b, a b, a a b, ... beside each other.

That's how many independent columns there are among all of these, however often a is taken: once a step brings
nothing new, no later one does. So it's enough to move on those columns that were new themselves.
"""

from exactmatrices.matrices import turned
from exactmatrices.quotients import scale_of, scale_of_all, whole_row
from exactmatrices.wholes import cleared_row, first_place, paired_total, row_divisor, shrunk_row


def rest_beside(column, kept, places):
    """What is left of a column when it is made 0 at the places of the kept ones; all 0 if it depends on them.

    This is Bareiss' elimination, a column at a time.
    """
    before = 1
    for other, place in zip(kept, places):
        column = cleared_row(column, other, place, before)
        before = other[place]
    return column


def moved_column(whole, base, column):
    """The column times the whole matrix, without what all its numbers have in common with base."""
    result = [paired_total(row, column) for row in whole]
    return shrunk_row(result, row_divisor(result, base))


def reached(a, b):
    # No column's length matters for the rank, so each is whole numbers, and a is taken times its base.
    base = scale_of_all(a)
    whole = [whole_row(row, base) for row in a]
    waiting = [whole_row(column, scale_of(column)) for column in turned(b)]
    kept = []
    places = []
    done = 0
    while done < len(waiting) and len(kept) < len(a):
        column = waiting[done]
        rest = rest_beside(column, kept, places)
        place = first_place(rest)
        if place < len(rest):
            kept.append(rest)
            places.append(place)
            waiting.append(moved_column(whole, base, column))
        done += 1
    return len(kept)
