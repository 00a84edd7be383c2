"""What is a matrix, what is refused as none, and in which order refusals stand."""

import unittest

from calls import OF_ONE_LIST, OF_TWO_LISTS
from exactmatrices.desk import one, two
from reckoning import BOUND

GOOD = [2, 2, 1, 1, 2, 1, 3, 1, 4, 1]
WIDE = [2, 3] + [1, 2] * 6
NOTHING = [1, 1, 0, 1]

NO_MATRICES = (
    [],
    [0],
    [1],
    [2, 2],
    [1, 1],
    [1, 1, 5],
    [1, 1, 5, 1, 5],
    [1, 1, 5, 1, 5, 1],
    [2, 2, 1, 1, 2, 1, 3, 1],
    [2, 2, 1, 1, 2, 1, 3, 1, 4],
    [2, 2, 1, 1, 2, 1, 3, 1, 4, 1, 5],
    [2, 2, 1, 1, 2, 1, 3, 1, 4, 1, 5, 1],
    [2, 3, 1, 1, 2, 1, 3, 1, 4, 1],
    [0, 0],
    [0, 1],
    [1, 0],
    [0, 5, 1, 1],
    [0, 1, 1, 1],
    [1, 0, 1, 1],
    [-1, -1, 1, 1],
    [-1, 1, 1, 1],
    [1, -1, 1, 1],
    [-2, -2, 1, 1, 2, 1, 3, 1, 4, 1],
    [10, 1] + [1, 1] * 10,
    [1, 10] + [1, 1] * 10,
    [10, 10] + [1, 1] * 100,
    [BOUND, 1, 1, 1],
    [1, 10 ** 41, 1, 1],
    [-10 ** 41, -10 ** 41],
    [1, 1, 1, 0],
    [1, 1, 0, 0],
    [1, 1, 1, -1],
    [1, 1, -1, -1],
    [1, 1, 1, BOUND],
    [1, 1, 0, BOUND],
    [1, 1, 1, 10 * BOUND],
    [1, 1, BOUND, 1],
    [1, 1, -BOUND, 1],
    [1, 1, BOUND, BOUND],
    [1, 1, 10 * BOUND, 1],
    [1, 1, -10 * BOUND, 1],
    [1, 2, 1, 1, 1, 0],
    [1, 2, 1, 1, BOUND, 1],
    [9, 9] + [1, 1] * 80 + [1, 0],
    [9, 9] + [1, 1] * 80 + [-BOUND, 1],
    [9, 9] + [1, 1] * 82,
    [1, 1] + [1, 1] * 149,
)


class NoMatrix(unittest.TestCase):

    def test_in_the_one_place(self):
        for numbers in NO_MATRICES:
            for call in OF_ONE_LIST:
                self.assertEqual(call(numbers), [-6], numbers[:4])

    def test_in_either_place(self):
        for numbers in NO_MATRICES:
            for call in OF_TWO_LISTS:
                for other in (GOOD, WIDE, NOTHING):
                    self.assertEqual(call(numbers, other), [-6], numbers[:4])
                    self.assertEqual(call(other, numbers), [-6], numbers[:4])
                self.assertEqual(call(numbers, numbers), [-6], numbers[:4])


class Taken(unittest.TestCase):

    def test_greatest_and_least_numbers(self):
        edge = BOUND - 1
        self.assertEqual(one(0, [1, 4, edge, edge, -edge, edge, edge, 1, 1, edge]),
                         [0, 4, 1, 1, 1, -1, 1, edge, 1, 1, edge])
        self.assertEqual(two(0, [1, 2, edge, edge, -edge, edge], [1, 2, edge, 1, -edge, 1]),
                         [0, 1, 2, BOUND, 1, -BOUND, 1])
        self.assertEqual(two(2, [1, 1, 1, edge], [1, 1, -1, edge]), [0, 1, 1, -1, edge * edge])

    def test_all_shapes_from_1_to_9(self):
        for rows in range(1, 10):
            for columns in range(1, 10):
                numbers = [rows, columns] + [1, 1] * (rows * columns)
                self.assertEqual(one(0, numbers), [0, columns, rows] + [1, 1] * (rows * columns))


class Order(unittest.TestCase):

    def test_no_matrix_is_said_before_all_else(self):
        for op in (-1, 5, 6, 2 ** 64, -2 ** 64):
            self.assertEqual(two(op, [], GOOD), [-6])
            self.assertEqual(two(op, GOOD, [1, 1, 1, 0]), [-6])
            self.assertEqual(two(op, [], []), [-6])
        for op in (-1, 6, 2 ** 64, -2 ** 64):
            self.assertEqual(one(op, [1, 1, 1, 0]), [-6])
        # A shape that doesn't fit the op, told by a list that ends too early.
        self.assertEqual(one(3, [2, 3, 1, 1]), [-6])
        self.assertEqual(two(0, GOOD, [2, 3, 1, 1]), [-6])

    def test_misfit_is_said_before_what_there_is_none_of(self):
        self.assertEqual(one(5, [2, 3] + [0, 1] * 6), [-1])
        self.assertEqual(one(5, [3, 2] + [0, 1] * 6), [-1])
        self.assertEqual(one(6, [2, 2] + [0, 1] * 4), [-1])
        self.assertEqual(one(-1, [1, 1, 1, 1]), [-1])


if __name__ == "__main__":
    unittest.main()
