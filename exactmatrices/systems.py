"""Linear equations: a x = b, and x = a x a' + q as equations for the entries of x."""

from exactmatrices.echelons import eliminated_from
from exactmatrices.matrices import beside
from exactmatrices.quotients import divided_row, minus, times


class System:

    def __init__(self, done, size):
        """The equations a x = b.

        done: elimination in a beside b
        size: how many columns a has
        """
        self.done = done
        self.size = size


def system_of(a, b):
    return System(eliminated_from(beside(a, b)), len(a[0]))


def has_no_solution(system):
    # A row that begins in b says that 0 is something else.
    begins = system.done.begins
    return begins != [] and begins[-1] >= system.size


def has_free_columns(system):
    """Whether a system that has a solution has more than one."""
    return len(system.done.begins) < system.size


def solution(system):
    """The x of a system that has just one."""
    size = system.size
    return [divided_row(row[size:], system.done.lead) for row in system.done.rows[:size]]


def total_row(a, i, j):
    """The factors of x's entries, row by row, in entry i, j of x - a x a'."""
    size = len(a)
    result = []
    for k in range(size):
        for m in range(size):
            own = (1, 1) if k == i and m == j else (0, 1)
            result.append(minus(own, times(a[i][k], a[j][m])))
    return result


def total_system(a, q):
    """x = a x a' + q, for the entries of x, row by row, as one column."""
    rows = []
    column = []
    for i, row in enumerate(q):
        for j, entry in enumerate(row):
            rows.append(total_row(a, i, j))
            column.append([entry])
    return system_of(rows, column)


def total_from(system, size):
    """The square matrix whose entries, row by row, are the system's solution."""
    entries = [row[0] for row in solution(system)]
    return [entries[start:start + size] for start in range(0, len(entries), size)]
