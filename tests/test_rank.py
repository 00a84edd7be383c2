import unittest

from exactmatrices.desk import one, rank
from reckoning import BOUND, Source, echelon, identity, read, told


def whole(*rows):
    """The list of a matrix of whole numbers."""
    return told(rows)


class Ranks(unittest.TestCase):

    def test_0(self):
        for rows in range(1, 10):
            for columns in range(1, 10):
                self.assertEqual(rank([rows, columns] + [0, 3] * (rows * columns)), [0, 0])

    def test_1(self):
        for rows in range(1, 10):
            for columns in range(1, 10):
                self.assertEqual(rank([rows, columns] + [2, 3] * (rows * columns)), [0, 1])
                last = [rows, columns] + [0, 1] * (rows * columns - 1) + [1, BOUND - 1]
                self.assertEqual(rank(last), [0, 1])

    def test_square(self):
        self.assertEqual(rank(whole([1, 2], [3, 4])), [0, 2])
        self.assertEqual(rank(whole([1, 2], [2, 4])), [0, 1])
        self.assertEqual(rank(whole([0, 1], [0, 2])), [0, 1])
        self.assertEqual(rank(whole([0, 0], [1, 2])), [0, 1])
        self.assertEqual(rank(whole([1, 2, 3], [4, 5, 6], [7, 8, 9])), [0, 2])
        self.assertEqual(rank(whole([0, 0, 1], [0, 1, 0], [1, 0, 0])), [0, 3])

    def test_not_square(self):
        self.assertEqual(rank(whole([1, 2, 3], [4, 5, 6])), [0, 2])
        self.assertEqual(rank(whole([1, 2, 3], [2, 4, 6])), [0, 1])
        self.assertEqual(rank(whole([1, 2], [2, 4], [3, 7])), [0, 2])
        self.assertEqual(rank(whole([0, 0, 5, 1])), [0, 1])
        self.assertEqual(rank(whole([0], [0], [5], [1])), [0, 1])

    def test_quotients(self):
        # The second row is the first by 3, not in lowest terms.
        self.assertEqual(rank([2, 2, 1, 2, 1, 3, 2, 12, 4, 36]), [0, 1])
        self.assertEqual(rank([2, 2, 1, 2, 1, 3, 2, 12, 4, 35]), [0, 2])

    def test_every_rank(self):
        source = Source(40)
        for rows, columns in ((9, 9), (4, 4), (3, 9), (9, 3), (8, 9), (1, 5), (5, 1)):
            for expected in range(min(rows, columns) + 1):
                numbers = [rows, columns] + [0, 1] * (rows * columns) if expected == 0 \
                    else source.poor(rows, columns, expected)
                self.assertEqual(rank(numbers), [0, expected])
                self.assertEqual(rank(one(0, numbers)[1:]), [0, expected])

    def test_the_unit(self):
        for size in range(1, 10):
            self.assertEqual(rank(told(identity(size))), [0, size])

    def test_great_matrices(self):
        source = Source(41)
        for rows, columns in ((9, 9), (9, 5), (5, 9), (1, 9), (9, 1)):
            self.assertEqual(rank(source.great(rows, columns)), [0, min(rows, columns)])
        numbers = source.great(9, 9)
        # The last row is the first one again.
        self.assertEqual(rank(numbers[:146] + numbers[2:20]), [0, 8])
        edge = BOUND - 1
        self.assertEqual(rank([2, 2, edge, edge - 1, edge - 1, edge - 2, edge - 1, edge - 2, edge - 2, edge - 3]), [0, 2])

    def test_small_matrices_of_all_shapes(self):
        source = Source(42)
        for rows in range(1, 10):
            for columns in range(1, 10):
                numbers = source.small(rows, columns)
                self.assertEqual(rank(numbers), [0, len(echelon(read(numbers))[1])])


class Refusals(unittest.TestCase):

    def test_no_matrix(self):
        for numbers in ([], [1], [1, 1], [1, 1, 1, 0], [1, 1, BOUND, 1], [10, 1] + [1, 1] * 10, [2, 1, 1, 1]):
            self.assertEqual(rank(numbers), [-6])


if __name__ == "__main__":
    unittest.main()
