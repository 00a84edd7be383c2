"""Matrices told by numbers: how many rows, how many columns, then two whole numbers for each entry, row by row.

Within the program a matrix is a list of its rows, each a list of quotients.
"""

from exactmatrices.quotients import lowest

GREATEST_SIDE = 9
BOUND = 10000000000000000000000000000000000000000


def is_side(number):
    return 1 <= number <= GREATEST_SIDE


def is_matrix(numbers):
    """Whether a list of whole numbers tells a matrix."""
    if len(numbers) < 2 or not is_side(numbers[0]) or not is_side(numbers[1]):
        return False
    if len(numbers) != 2 + 2 * numbers[0] * numbers[1]:
        return False
    for k in range(2, len(numbers), 2):
        if not -BOUND < numbers[k] < BOUND or not 1 <= numbers[k + 1] < BOUND:
            return False
    return True


def row_from(numbers, start, columns):
    return [lowest(numbers[k], numbers[k + 1]) for k in range(start, start + 2 * columns, 2)]


def matrix_from(numbers):
    """The matrix that a list tells; the list is one that is_matrix takes."""
    columns = numbers[1]
    return [row_from(numbers, start, columns) for start in range(2, len(numbers), 2 * columns)]


def numbers_from(matrix):
    """The list that tells a matrix."""
    numbers = [len(matrix), len(matrix[0])]
    for row in matrix:
        for x in row:
            numbers.append(x[0])
            numbers.append(x[1])
    return numbers
