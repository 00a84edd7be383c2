import unittest
from fractions import Fraction

from exactmatrices.desk import one, rank, reach, two
from reckoning import BOUND, Source, echelon, identity, product, rank_in_rests, read, rest_of, told


def whole(*rows):
    """The list of a matrix of whole numbers."""
    return told(rows)


def shift(size):
    """Moves each place on by one: what was last goes away."""
    return told([[Fraction(int(i == j + 1)) for j in range(size)] for i in range(size)])


def column(size, *places):
    return told([[Fraction(int(k in places))] for k in range(size)])


def beside_each_other(a, b):
    """b, a b, a a b, ..., as many as a has rows."""
    rows = b
    block = b
    for _ in range(len(a) - 1):
        block = product(a, block)
        rows = [row + other for row, other in zip(rows, block)]
    return rows


class Reached(unittest.TestCase):

    def test_one_row(self):
        for numbers in ([1, 1, 0, 1], [1, 1, 5, 3]):
            self.assertEqual(reach(numbers, [1, 1, 0, 7]), [0, 0])
            self.assertEqual(reach(numbers, [1, 1, 2, 7]), [0, 1])
            self.assertEqual(reach(numbers, [1, 3, 0, 1, 0, 1, 2, 7]), [0, 1])

    def test_two_rows(self):
        a = whole([1, 2], [3, 4])
        self.assertEqual(reach(a, whole([1], [0])), [0, 2])
        self.assertEqual(reach(whole([2, 0], [0, 3]), whole([1], [0])), [0, 1])
        self.assertEqual(reach(whole([2, 0], [0, 3]), whole([1], [1])), [0, 2])
        self.assertEqual(reach(whole([2, 0], [0, 2]), whole([1], [1])), [0, 1])
        self.assertEqual(reach(whole([2, 0], [0, 2]), whole([1, 0], [0, 1])), [0, 2])

    def test_b_0(self):
        for size in range(1, 10):
            self.assertEqual(reach(told(identity(size)), [size, 2] + [0, 1] * (2 * size)), [0, 0])
            self.assertEqual(reach([size, size] + [1, 2] * size * size, [size, 1] + [0, 1] * size), [0, 0])

    def test_a_0(self):
        source = Source(50)
        for size in range(1, 10):
            for columns in (1, 2, 9):
                b = source.small(size, columns)
                self.assertEqual(reach([size, size] + [0, 1] * size * size, b), rank(b))

    def test_more_at_every_step(self):
        for size in range(1, 10):
            for place in range(size):
                self.assertEqual(reach(shift(size), column(size, place)), [0, size - place])

    def test_turned_about(self):
        for size in range(1, 10):
            for place in range(size):
                self.assertEqual(reach(one(0, shift(size))[1:], column(size, place)), [0, place + 1])

    def test_several_columns_in_chains_of_their_own(self):
        # Two chains, of places 0 to 4 and 5 to 8.
        rows = read(shift(9))
        rows[5][4] = Fraction(0)
        a = told(rows)
        self.assertEqual(reach(a, column(9, 0)), [0, 5])
        self.assertEqual(reach(a, column(9, 5)), [0, 4])
        self.assertEqual(reach(a, column(9, 0, 5)), [0, 5])
        self.assertEqual(reach(a, two(3, column(9, 0), column(9, 5))[1:]), [0, 9])
        self.assertEqual(reach(a, two(3, column(9, 2), column(9, 7))[1:]), [0, 5])

    def test_columns_that_bring_nothing_new_at_first(self):
        # The first two columns are 0 and the third is the fourth again; the chain begins there all the same.
        b = told([[0, 0, int(k == 0), int(k == 0)] for k in range(6)])
        self.assertEqual(reach(shift(6), b), [0, 6])

    def test_different_roots(self):
        a = told([[Fraction(i + 1, 2) if i == j else 0 for j in range(9)] for i in range(9)])
        for count in range(1, 10):
            self.assertEqual(reach(a, column(9, *range(count))), [0, count])

    def test_a_turn_comes_back(self):
        size = 9
        a = told([[int(i == (j + 3) % size) for j in range(size)] for i in range(size)])
        self.assertEqual(reach(a, column(size, 0)), [0, 3])
        self.assertEqual(reach(a, column(size, 0, 1)), [0, 3])
        self.assertEqual(reach(a, two(3, column(size, 0), column(size, 1))[1:]), [0, 6])


class Reckoned(unittest.TestCase):

    def test_small_matrices(self):
        source = Source(51)
        for size in range(1, 8):
            for columns in (1, 2, 3, 9):
                a = source.small(size, size)
                b = source.small(size, columns)
                rows = beside_each_other(read(a), read(b))
                self.assertEqual(reach(a, b), [0, len(echelon(rows)[1])])

    def test_matrices_with_many_zeros(self):
        source = Source(52)
        seen = set()
        for size in range(2, 8):
            for _ in range(20):
                a = [size, size]
                for _ in range(size * size):
                    a += [source.draw.choice((0, 0, 0, 0, 0, 1, -1, 2)), source.draw.choice((1, 3))]
                b = [size, 1]
                for _ in range(size):
                    b += [source.draw.choice((0, 0, 1)), 1]
                expected = len(echelon(beside_each_other(read(a), read(b)))[1])
                self.assertEqual(reach(a, b), [0, expected])
                seen.add((size, expected))
        self.assertGreater(len(seen), 20)

    def test_great_matrices(self):
        source = Source(53)
        self.assertEqual(reach(source.great(9, 9), source.great(9, 9)), [0, 9])
        self.assertEqual(reach(source.great(9, 9), source.great(9, 1)), [0, 9])
        self.assertEqual(reach(source.great(9, 9), source.poor(9, 9, 2)), [0, 9])
        self.assertEqual(reach(source.great(1, 1), source.great(1, 9)), [0, 1])

    def test_great_matrices_of_small_rank(self):
        source = Source(54)
        prime = 2 ** 521 - 1
        for poor, rich, columns in ((1, 1, 1), (3, 1, 1), (5, 2, 9), (4, 4, 4), (8, 1, 9)):
            a = source.poor(9, 9, poor)
            b = source.poor(9, columns, rich)
            # Whole numbers, so their rests are reckoned with; but for a miracle the rank is the same.
            rows = [[rest_of(x, prime) for x in row] for row in beside_each_other(read(a), read(b))]
            expected = rank_in_rests(rows, prime)
            self.assertEqual(expected, min(9, poor + rich))
            self.assertEqual(reach(a, b), [0, expected])

    def test_great_blocks(self):
        # What lies in the first rows never gets to the last ones.
        source = Source(55)
        rows = read(source.great(9, 9))
        for i in range(4, 9):
            for j in range(4):
                rows[i][j] = Fraction(0)
        b = [9, 2] + source.great(4, 2)[2:] + [0, 1] * 10
        self.assertEqual(reach(told(rows), b), [0, 4])
        self.assertEqual(reach(told(rows), b[:-2] + [1, BOUND - 1]), [0, 9])


class Refusals(unittest.TestCase):

    def test_not_square(self):
        for rows, columns in ((1, 2), (2, 1), (2, 3), (3, 2), (8, 9), (9, 8), (1, 9), (9, 1)):
            a = [rows, columns] + [1, 1] * (rows * columns)
            for size in {rows, columns}:
                self.assertEqual(reach(a, column(size, 0)), [-1])

    def test_not_as_many_rows(self):
        for rows in range(1, 10):
            for others in range(1, 10):
                found = reach(told(identity(rows)), [others, 2] + [1, 1] * (2 * others))
                self.assertEqual(found, [0, 1] if rows == others else [-1])
        # As many columns as a has rows are not enough.
        self.assertEqual(reach(told(identity(2)), whole([1, 2])), [-1])

    def test_no_matrix_is_said_first(self):
        for numbers in ([], [2, 1, 1, 1], [1, 1, 1, 0], [1, 1, BOUND, 1]):
            for other in (told(identity(2)), whole([1, 2]), column(9, 0)):
                self.assertEqual(reach(numbers, other), [-6])
                self.assertEqual(reach(other, numbers), [-6])


if __name__ == "__main__":
    unittest.main()
