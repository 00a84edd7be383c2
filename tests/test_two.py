import unittest

from exactmatrices.desk import two
from reckoning import Source, answered, product, read

A = [2, 2, 1, 1, 2, 1, 3, 1, 4, 1]
B = [2, 2, 5, 1, -6, 1, 7, 1, 0, 1]
# 1/2, -1/3 over 0, 3/4, with terms that aren't the lowest
HALVES = [2, 2, 2, 4, -3, 9, 0, 17, 6, 8]
# 1/6, 1/3 over -5, 1/4
SIXTHS = [2, 2, 3, 18, 10, 30, -10, 2, 25, 100]


def ones(rows, columns):
    return [rows, columns] + [1, 1] * (rows * columns)


class Whole(unittest.TestCase):

    def test_sum(self):
        self.assertEqual(two(0, A, B), [0, 2, 2, 6, 1, -4, 1, 10, 1, 4, 1])

    def test_difference(self):
        self.assertEqual(two(1, A, B), [0, 2, 2, -4, 1, 8, 1, -4, 1, 4, 1])

    def test_product(self):
        self.assertEqual(two(2, A, B), [0, 2, 2, 19, 1, -6, 1, 43, 1, -18, 1])
        self.assertEqual(two(2, B, A), [0, 2, 2, -13, 1, -14, 1, 7, 1, 14, 1])

    def test_product_of_other_shapes(self):
        row = [1, 3, 1, 1, 2, 1, 3, 1]
        column = [3, 1, 4, 1, 5, 1, 6, 1]
        self.assertEqual(two(2, row, column), [0, 1, 1, 32, 1])
        self.assertEqual(two(2, column, row),
                         [0, 3, 3, 4, 1, 8, 1, 12, 1, 5, 1, 10, 1, 15, 1, 6, 1, 12, 1, 18, 1])

    def test_beside(self):
        self.assertEqual(two(3, A, [2, 1, 8, 1, 9, 1]), [0, 2, 3, 1, 1, 2, 1, 8, 1, 3, 1, 4, 1, 9, 1])

    def test_above(self):
        self.assertEqual(two(4, A, [1, 2, 8, 1, 9, 1]), [0, 3, 2, 1, 1, 2, 1, 3, 1, 4, 1, 8, 1, 9, 1])
        self.assertEqual(two(4, [1, 2, 8, 1, 9, 1], A), [0, 3, 2, 8, 1, 9, 1, 1, 1, 2, 1, 3, 1, 4, 1])


class Quotients(unittest.TestCase):

    def test_sum(self):
        self.assertEqual(two(0, HALVES, SIXTHS), [0, 2, 2, 2, 3, 0, 1, -5, 1, 1, 1])

    def test_difference(self):
        self.assertEqual(two(1, HALVES, SIXTHS), [0, 2, 2, 1, 3, -2, 3, 5, 1, 1, 2])

    def test_difference_with_itself_is_0_over_1(self):
        self.assertEqual(two(1, HALVES, HALVES), [0, 2, 2] + [0, 1] * 4)

    def test_product(self):
        self.assertEqual(two(2, HALVES, SIXTHS), [0, 2, 2, 7, 4, 1, 12, -15, 4, 3, 16])

    def test_beside(self):
        self.assertEqual(two(3, HALVES, SIXTHS),
                         [0, 2, 4, 1, 2, -1, 3, 1, 6, 1, 3, 0, 1, 3, 4, -5, 1, 1, 4])

    def test_above(self):
        self.assertEqual(two(4, HALVES, SIXTHS),
                         [0, 4, 2, 1, 2, -1, 3, 0, 1, 3, 4, 1, 6, 1, 3, -5, 1, 1, 4])


class Refusals(unittest.TestCase):

    def test_op_out_of_range(self):
        for op in (-1, 5, 6, -6, 2 ** 64, -2 ** 64):
            self.assertEqual(two(op, A, B), [-1], op)

    def test_sum_and_difference_of_other_shapes(self):
        for op in (0, 1):
            for shape in ((2, 3), (3, 2), (1, 2), (2, 1), (1, 6), (6, 1)):
                self.assertEqual(two(op, ones(2, 3), ones(*shape))[0], 0 if shape == (2, 3) else -1)
                self.assertEqual(two(op, ones(3, 2), ones(*shape))[0], 0 if shape == (3, 2) else -1)
                self.assertEqual(len(two(op, ones(4, 4), ones(*shape))), 1)

    def test_product_of_shapes_that_dont_fit(self):
        self.assertEqual(two(2, ones(2, 3), ones(2, 3)), [-1])
        self.assertEqual(two(2, ones(3, 2), ones(3, 4)), [-1])
        self.assertEqual(two(2, ones(1, 9), ones(8, 1)), [-1])
        self.assertEqual(two(2, ones(2, 3), ones(3, 2)), [0, 2, 2] + [3, 1] * 4)

    def test_beside_of_shapes_that_dont_fit(self):
        self.assertEqual(two(3, ones(2, 3), ones(3, 3)), [-1])
        self.assertEqual(two(3, ones(2, 3), ones(1, 3)), [-1])

    def test_above_of_shapes_that_dont_fit(self):
        self.assertEqual(two(4, ones(3, 2), ones(3, 3)), [-1])
        self.assertEqual(two(4, ones(3, 2), ones(3, 1)), [-1])

    def test_beside_up_to_9_columns(self):
        self.assertEqual(two(3, ones(2, 4), ones(2, 5)), [0] + ones(2, 9))
        self.assertEqual(two(3, ones(9, 8), ones(9, 1)), [0] + ones(9, 9))
        self.assertEqual(two(3, ones(2, 5), ones(2, 5)), [-1])
        self.assertEqual(two(3, ones(1, 1), ones(1, 9)), [-1])
        self.assertEqual(two(3, ones(1, 9), ones(1, 9)), [-1])

    def test_above_up_to_9_rows(self):
        self.assertEqual(two(4, ones(4, 2), ones(5, 2)), [0] + ones(9, 2))
        self.assertEqual(two(4, ones(1, 9), ones(8, 9)), [0] + ones(9, 9))
        self.assertEqual(two(4, ones(5, 2), ones(5, 2)), [-1])
        self.assertEqual(two(4, ones(9, 1), ones(1, 1)), [-1])
        self.assertEqual(two(4, ones(9, 1), ones(9, 1)), [-1])


class Reckoned(unittest.TestCase):

    def check(self, numbers, others):
        a = read(numbers)
        b = read(others)
        one_shape = numbers[:2] == others[:2]
        sums = [[x + y for x, y in zip(r, s)] for r, s in zip(a, b)]
        differences = [[x - y for x, y in zip(r, s)] for r, s in zip(a, b)]
        self.assertEqual(two(0, numbers, others), answered(sums) if one_shape else [-1])
        self.assertEqual(two(1, numbers, others), answered(differences) if one_shape else [-1])
        fits = len(a[0]) == len(b)
        self.assertEqual(two(2, numbers, others), answered(product(a, b)) if fits else [-1])
        fits = len(a) == len(b) and len(a[0]) + len(b[0]) < 10
        self.assertEqual(two(3, numbers, others), answered([r + s for r, s in zip(a, b)]) if fits else [-1])
        fits = len(a[0]) == len(b[0]) and len(a) + len(b) < 10
        self.assertEqual(two(4, numbers, others), answered(a + b) if fits else [-1])

    def test_small_matrices_of_all_shapes(self):
        source = Source(1)
        for k in range(81):
            numbers = source.small(k // 9 + 1, k % 9 + 1)
            for shape in ((k // 9 + 1, k % 9 + 1), (k % 9 + 1, 4), (k // 9 + 1, 3), (5, k % 9 + 1)):
                self.check(numbers, source.small(*shape))

    def test_great_matrices(self):
        source = Source(2)
        self.check(source.great(9, 9), source.great(9, 9))
        self.check(source.great(9, 4), source.great(9, 5))
        self.check(source.great(4, 9), source.great(5, 9))
        self.check(source.great(9, 1), source.great(1, 9))
        self.check(source.great(1, 9), source.great(9, 1))


if __name__ == "__main__":
    unittest.main()
