"""What the tests reckon with: matrices as lists of rows of Fraction, each thing by a way of its own."""

import random
from fractions import Fraction

BOUND = 10 ** 40


def told(rows):
    """The list that tells a matrix, in lowest terms."""
    numbers = [len(rows), len(rows[0])]
    for row in rows:
        for x in row:
            numbers += [Fraction(x).numerator, Fraction(x).denominator]
    return numbers


def read(numbers):
    """The matrix that a list tells."""
    rows, columns = numbers[:2]
    entries = [Fraction(numbers[k], numbers[k + 1]) for k in range(2, len(numbers), 2)]
    assert len(entries) == rows * columns
    return [entries[k * columns:(k + 1) * columns] for k in range(rows)]


def answered(rows):
    return [0] + told(rows)


def identity(size):
    return [[Fraction(int(i == k)) for k in range(size)] for i in range(size)]


def turned(a):
    return [list(column) for column in zip(*a)]


def product(a, b):
    return [[sum(x * y for x, y in zip(row, column)) for column in zip(*b)] for row in a]


def determinant(a):
    """By expansion along the rows, each set of columns reckoned once."""
    size = len(a)
    parts = {0: Fraction(1)}
    for taken in range(1, 1 << size):
        columns = [k for k in range(size) if taken >> k & 1]
        row = a[len(columns) - 1]
        sign = 1
        total = Fraction(0)
        for k in reversed(columns):
            total += sign * row[k] * parts[taken & ~(1 << k)]
            sign = -sign
        parts[taken] = total
    return parts[(1 << size) - 1]


def worth(coefficients, z):
    return sum(c * z ** k for k, c in enumerate(coefficients))


def shifted(a, z):
    """z - a"""
    return [[z * int(i == k) - x for k, x in enumerate(row)] for i, row in enumerate(a)]


def echelon(a):
    """The reduced echelon by division of each row that begins, and the columns in which rows begin."""
    rows = [list(row) for row in a]
    begins = []
    for column in range(len(rows[0])):
        place = len(begins)
        found = [k for k in range(place, len(rows)) if rows[k][column]]
        if not found:
            continue
        rows[place], rows[found[0]] = rows[found[0]], rows[place]
        head = rows[place][column]
        rows[place] = [x / head for x in rows[place]]
        for k in range(len(rows)):
            if k != place:
                factor = rows[k][column]
                rows[k] = [x - factor * y for x, y in zip(rows[k], rows[place])]
        begins.append(column)
    return rows, begins


def kernel(a):
    """The kernel; None if no column is free."""
    rows, begins = echelon(a)
    width = len(a[0])
    columns = []
    for free in [k for k in range(width) if k not in begins]:
        column = [Fraction(0)] * width
        column[free] = Fraction(1)
        for k, begin in enumerate(begins):
            column[begin] = -rows[k][free]
        columns.append(column)
    return turned(columns) if columns else None


def rest_of(x, prime):
    """A quotient as a rest by a prime."""
    return x.numerator * pow(x.denominator, -1, prime) % prime


def rank_in_rests(rows, prime):
    """The rank of a matrix of rests by a prime."""
    rows = [list(row) for row in rows]
    rank = 0
    for column in range(len(rows[0])):
        found = [k for k in range(rank, len(rows)) if rows[k][column]]
        if found:
            rows[rank], rows[found[0]] = rows[found[0]], rows[rank]
            inverse = pow(rows[rank][column], -1, prime)
            for k in range(rank + 1, len(rows)):
                factor = rows[k][column] * inverse
                rows[k] = [(x - factor * y) % prime for x, y in zip(rows[k], rows[rank])]
            rank += 1
    return rank


class Source:
    """Matrices drawn in an order that is the same each time."""

    def __init__(self, seed):
        self.draw = random.Random(seed)

    def small(self, rows, columns):
        """Lists of small numbers, many of them 0, not in lowest terms."""
        numbers = [rows, columns]
        for _ in range(rows * columns):
            numbers += [self.draw.choice((0, 0, 1, -1, 2, -3, 4, 6)), self.draw.choice((1, 1, 2, 4, 6))]
        return numbers

    def great(self, rows, columns):
        """Lists of numbers near to the bound."""
        numbers = [rows, columns]
        for _ in range(rows * columns):
            numbers += [self.draw.choice((1, -1)) * self.draw.randrange(BOUND // 10, BOUND),
                        self.draw.randrange(BOUND // 10, BOUND)]
        return numbers

    def poor(self, rows, columns, rank):
        """Lists of great whole numbers of the given rank (at most 9)."""
        edge = 10 ** 19
        left = [[self.draw.randrange(-edge, edge) for _ in range(rank)] for _ in range(rows)]
        right = [[self.draw.randrange(-edge, edge) for _ in range(columns)] for _ in range(rank)]
        return told(product(left, right))
