import math
import unittest
from fractions import Fraction

from exactmatrices.desk import signs
from reckoning import BOUND, Source, identity, product, read, told, turned


def whole(*rows):
    """The list of a matrix of whole numbers."""
    return told(rows)


def diagonal(*entries):
    return told([[x if i == j else 0 for j in range(len(entries))] for i, x in enumerate(entries)])


def mirrored(rows):
    """The matrix with what is above the diagonal below it too."""
    return [[rows[min(i, j)][max(i, j)] for j in range(len(rows))] for i in range(len(rows))]


def expected_signs(a):
    """By the signs of the characteristic polynomial's coefficients: its roots are all real, so that there are as many
    above 0 as there are changes of sign. The coefficients come from the traces of powers (Newton)."""
    scale = math.lcm(*[x.denominator for row in a for x in row])
    rows = [[int(x * scale) for x in row] for row in a]
    size = len(rows)
    traces = []
    power = rows
    for _ in range(size):
        traces.append(sum(power[k][k] for k in range(size)))
        power = product(power, rows)
    coefficients = [1]
    for k in range(1, size + 1):
        coefficients.append(-sum(coefficients[k - m] * traces[m - 1] for m in range(1, k + 1)) // k)
    missing = 0
    while coefficients[-1] == 0:
        coefficients.pop()
        missing += 1
    kept = [c > 0 for c in coefficients if c]
    above = sum(x != y for x, y in zip(kept, kept[1:]))
    return [above, size - missing - above, missing]


class Signs(unittest.TestCase):

    def test_one_row(self):
        self.assertEqual(signs([1, 1, 3, 5]), [0, 1, 0, 0])
        self.assertEqual(signs([1, 1, -3, 5]), [0, 0, 1, 0])
        self.assertEqual(signs([1, 1, 0, 5]), [0, 0, 0, 1])
        self.assertEqual(signs([1, 1, 1, BOUND - 1]), [0, 1, 0, 0])
        self.assertEqual(signs([1, 1, 1 - BOUND, 1]), [0, 0, 1, 0])

    def test_diagonal(self):
        self.assertEqual(signs(diagonal(1, 2, 3)), [0, 3, 0, 0])
        self.assertEqual(signs(diagonal(-1, -2, -3)), [0, 0, 3, 0])
        self.assertEqual(signs(diagonal(0, 2, 0, -3, -4)), [0, 1, 2, 2])
        self.assertEqual(signs(diagonal(-1, 1, -1, 1, -1)), [0, 2, 3, 0])
        self.assertEqual(signs(diagonal(Fraction(1, 3), 0, Fraction(-2, 7))), [0, 1, 1, 1])

    def test_every_share_of_9(self):
        for above in range(10):
            for below in range(10 - above):
                missing = 9 - above - below
                entries = [5] * above + [0] * missing + [Fraction(-1, 4)] * below
                self.assertEqual(signs(diagonal(*entries)), [0, above, below, missing])
                self.assertEqual(signs(diagonal(*reversed(entries))), [0, above, below, missing])

    def test_0(self):
        for size in range(1, 10):
            self.assertEqual(signs([size, size] + [0, 4] * size * size), [0, 0, 0, size])

    def test_two_rows(self):
        self.assertEqual(signs(whole([2, 1], [1, 2])), [0, 2, 0, 0])
        self.assertEqual(signs(whole([1, 2], [2, 1])), [0, 1, 1, 0])
        self.assertEqual(signs(whole([-1, 2], [2, -1])), [0, 1, 1, 0])
        self.assertEqual(signs(whole([1, 2], [2, 4])), [0, 1, 0, 1])
        self.assertEqual(signs(whole([-1, 2], [2, -4])), [0, 0, 1, 1])
        self.assertEqual(signs(whole([0, 2], [2, -4])), [0, 1, 1, 0])
        self.assertEqual(signs(whole([0, 0], [0, -4])), [0, 0, 1, 1])

    def test_all_ones(self):
        for size in range(1, 10):
            self.assertEqual(signs([size, size] + [1, 3] * size * size), [0, 1, 0, size - 1])
            self.assertEqual(signs([size, size] + [-1, 3] * size * size), [0, 0, 1, size - 1])

    def test_diagonal_of_0(self):
        self.assertEqual(signs(whole([0, 1], [1, 0])), [0, 1, 1, 0])
        self.assertEqual(signs(whole([0, -1], [-1, 0])), [0, 1, 1, 0])
        self.assertEqual(signs(whole([0, 1, 1], [1, 0, 1], [1, 1, 0])), [0, 1, 2, 0])
        self.assertEqual(signs(whole([0, -1, -1], [-1, 0, -1], [-1, -1, 0])), [0, 2, 1, 0])
        self.assertEqual(signs(whole([0, 0, 1], [0, 0, 0], [1, 0, 0])), [0, 1, 1, 1])
        self.assertEqual(signs(whole([0, 0, 0], [0, 0, 5], [0, 5, 0])), [0, 1, 1, 1])
        self.assertEqual(signs([2, 2, 0, 1, -2, 7, -4, 14, 0, 3]), [0, 1, 1, 0])
        for half in range(1, 5):
            size = 2 * half
            pairs = told([[int(i + j == size - 1) for j in range(size)] for i in range(size)])
            self.assertEqual(signs(pairs), [0, half, half, 0])

    def test_diagonal_of_0_after_some_squares(self):
        # When the first square is taken out, 0 1 over 1 0 is left.
        self.assertEqual(signs(whole([1, 1, 1], [1, 1, 2], [1, 2, 1])), [0, 2, 1, 0])
        self.assertEqual(signs(whole([-1, 1, 1], [1, -1, 2], [1, 2, -1])), [0, 1, 2, 0])
        self.assertEqual(signs(whole([-2, 0, 0], [0, 0, 3], [0, 3, 0])), [0, 1, 2, 0])
        self.assertEqual(signs(whole([3, 0, 0, 0], [0, -3, 0, 0], [0, 0, 0, 1], [0, 0, 1, 0])), [0, 2, 2, 0])
        # Twice, with a square between: what is written as a sum of squares at the beginning is 2 x y + z z + 2 u v.
        form = [[0, 1, 0, 0, 0], [1, 0, 0, 0, 0], [0, 0, 1, 0, 0], [0, 0, 0, 0, 1], [0, 0, 0, 1, 0]]
        self.assertEqual(signs(told(form)), [0, 3, 2, 0])
        mixed = [[1, 2, 0, 1, 1], [0, 1, 3, 0, 2], [0, 0, 1, 1, 0], [0, 0, 0, 1, 5], [0, 0, 0, 0, 1]]
        self.assertEqual(signs(told(product(product(turned(mixed), form), mixed))), [0, 3, 2, 0])


class Reckoned(unittest.TestCase):

    def check(self, rows):
        self.assertEqual(signs(told(rows)), [0] + expected_signs(rows))

    def test_small_matrices(self):
        source = Source(60)
        for size in range(1, 10):
            for _ in range(15):
                self.check(mirrored(read(source.small(size, size))))

    def test_diagonal_of_0(self):
        source = Source(61)
        for size in range(2, 10):
            for _ in range(15):
                rows = mirrored(read(source.small(size, size)))
                for k in range(size):
                    rows[k][k] = Fraction(0)
                self.check(rows)

    def test_many_zeros(self):
        source = Source(62)
        for size in range(2, 8):
            for _ in range(40):
                rows = [[Fraction(source.draw.choice((0, 0, 0, 0, 1, -1))) for _ in range(size)] for _ in range(size)]
                self.check(mirrored(rows))

    def test_every_share_in_another_guise(self):
        source = Source(63)
        for size in range(1, 10):
            for above in range(size + 1):
                below = source.draw.randrange(size - above + 1)
                entries = [1] * above + [-2] * below + [0] * (size - above - below)
                form = read(diagonal(*entries))
                # 1 on the diagonal and nothing below it: it has an inverse.
                change = [[int(i == j) or (j > i) * source.draw.randrange(-3, 4) for j in range(size)] for i in range(size)]
                found = signs(told(product(product(turned(change), form), change)))
                self.assertEqual(found, [0, above, below, size - above - below])

    def test_great_matrices(self):
        source = Source(64)
        for size in (9, 8, 2):
            self.check(mirrored(read(source.great(size, size))))
        rows = mirrored(read(source.great(9, 9)))
        for k in range(9):
            rows[k][k] = Fraction(0)
        self.check(rows)

    def test_great_matrices_of_small_rank(self):
        source = Source(65)
        for rank in (1, 4, 8):
            left = [[source.draw.randrange(-10 ** 19, 10 ** 19) for _ in range(rank)] for _ in range(9)]
            entries = read(diagonal(*[(-1) ** k for k in range(rank)]))
            rows = [[Fraction(x) for x in row] for row in product(product(left, entries), turned(left))]
            self.check(rows)
            self.assertEqual(signs(told(rows)), [0, (rank + 1) // 2, rank // 2, 9 - rank])

    def test_greatest_numbers(self):
        edge = BOUND - 1
        self.check([[Fraction(edge, edge - 1), Fraction(1)], [Fraction(1), Fraction(edge - 1, edge)]])
        self.check([[Fraction(edge, edge - 1), Fraction(1)], [Fraction(1), Fraction(edge - 2, edge)]])
        self.check([[Fraction(edge, edge - 1), Fraction(-1)], [Fraction(-1), Fraction(edge - 1, edge - 2)]])


class Refusals(unittest.TestCase):

    def test_not_square(self):
        for rows, columns in ((1, 2), (2, 1), (2, 3), (3, 2), (8, 9), (9, 8), (1, 9), (9, 1)):
            self.assertEqual(signs([rows, columns] + [1, 1] * (rows * columns)), [-1])
            self.assertEqual(signs([rows, columns] + [0, 1] * (rows * columns)), [-1])

    def test_not_its_own_turned_about(self):
        self.assertEqual(signs(whole([1, 2], [3, 4])), [-1])
        self.assertEqual(signs(whole([0, 1], [-1, 0])), [-1])
        self.assertEqual(signs(whole([1, 1], [0, 1])), [-1])
        self.assertEqual(signs([2, 2, 1, 1, 1, BOUND - 1, 1, BOUND - 2, 1, 1]), [-1])
        rows = identity(9)
        rows[8][7] = Fraction(1, 5)
        self.assertEqual(signs(told(rows)), [-1])

    def test_equal_entries_told_by_other_numbers(self):
        self.assertEqual(signs([2, 2, 1, 1, 1, 2, 3, 6, 1, 1]), [0, 2, 0, 0])
        self.assertEqual(signs([2, 2, 1, 1, 0, 2, 0, 6, -1, 1]), [0, 1, 1, 0])

    def test_no_matrix(self):
        for numbers in ([], [1], [2, 3, 1, 1], [2, 2, 1, 1, 2, 1, 3, 1, 4, 0], [1, 1, BOUND, 1]):
            self.assertEqual(signs(numbers), [-6])


if __name__ == "__main__":
    unittest.main()
