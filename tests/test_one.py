import unittest

from exactmatrices.desk import one
from reckoning import BOUND, Source, answered, determinant, echelon, identity, kernel, product, read, shifted, \
    told, turned, worth

TURN, ECHELON, KERNEL, DETERMINANT, CHARACTERISTIC, INVERSE = range(6)

# 1 2 over 3 4
SQUARE = [2, 2, 1, 1, 2, 1, 3, 1, 4, 1]
# 1/2 -1/3 over 0 3/4, with terms that aren't the lowest
HALVES = [2, 2, 2, 4, -3, 9, 0, 17, 6, 8]
# 1 2 over 2 4
SINGULAR = [2, 2, 1, 1, 2, 1, 2, 1, 4, 1]
# 1 2 3 over 4 5 6
WIDE = [2, 3, 1, 1, 2, 1, 3, 1, 4, 1, 5, 1, 6, 1]
# 1 4, 2 5, 3 6
HIGH = [3, 2, 1, 1, 4, 1, 2, 1, 5, 1, 3, 1, 6, 1]


def whole(*rows):
    """The list of a matrix of whole numbers."""
    return told(rows)


class Turn(unittest.TestCase):

    def test_turned_about(self):
        self.assertEqual(one(TURN, WIDE), [0] + HIGH)
        self.assertEqual(one(TURN, HIGH), [0] + WIDE)
        self.assertEqual(one(TURN, SQUARE), [0, 2, 2, 1, 1, 3, 1, 2, 1, 4, 1])
        self.assertEqual(one(TURN, [1, 1, -4, 6]), [0, 1, 1, -2, 3])

    def test_lowest_terms(self):
        self.assertEqual(one(TURN, HALVES), [0, 2, 2, 1, 2, 0, 1, -1, 3, 3, 4])


class Echelon(unittest.TestCase):

    def test_square(self):
        self.assertEqual(one(ECHELON, SQUARE), [0] + whole([1, 0], [0, 1]))
        self.assertEqual(one(ECHELON, HALVES), [0] + whole([1, 0], [0, 1]))
        self.assertEqual(one(ECHELON, [1, 1, -4, 6]), [0, 1, 1, 1, 1])

    def test_not_square(self):
        self.assertEqual(one(ECHELON, WIDE), [0] + whole([1, 0, -1], [0, 1, 2]))
        self.assertEqual(one(ECHELON, HIGH), [0] + whole([1, 0], [0, 1], [0, 0]))

    def test_quotients(self):
        self.assertEqual(one(ECHELON, [1, 3, 4, 6, -2, 8, 0, 5]), [0, 1, 3, 1, 1, -3, 8, 0, 1])
        self.assertEqual(one(ECHELON, [2, 3, 1, 2, 1, 3, 1, 1, 1, 4, 1, 5, 2, 1]),
                         [0, 2, 3, 1, 1, 0, 1, -28, 1, 0, 1, 1, 1, 45, 1])

    def test_rows_of_0_stand_last(self):
        self.assertEqual(one(ECHELON, whole([0, 0, 0], [2, 4, 6], [0, 0, 0], [1, 2, 4])),
                         [0] + whole([1, 2, 0], [0, 0, 1], [0, 0, 0], [0, 0, 0]))

    def test_rows_that_become_0(self):
        self.assertEqual(one(ECHELON, whole([1, 2], [2, 4], [3, 6])), [0] + whole([1, 2], [0, 0], [0, 0]))

    def test_all_0(self):
        self.assertEqual(one(ECHELON, whole([0, 0], [0, 0], [0, 0])), [0] + whole([0, 0], [0, 0], [0, 0]))
        self.assertEqual(one(ECHELON, [1, 1, 0, 7]), [0, 1, 1, 0, 1])

    def test_columns_in_which_no_row_begins(self):
        self.assertEqual(one(ECHELON, whole([1, 2, 3, 4, 5], [1, 2, 3, 5, 7], [2, 4, 6, 9, 13])),
                         [0] + whole([1, 2, 3, 0, 0], [0, 0, 0, 1, 0], [0, 0, 0, 0, 1]))
        self.assertEqual(one(ECHELON, whole([1, 2, 3, 4, 5], [1, 2, 3, 5, 7], [2, 4, 6, 9, 12])),
                         [0] + whole([1, 2, 3, 0, -3], [0, 0, 0, 1, 2], [0, 0, 0, 0, 0]))

    def test_first_column_of_0(self):
        self.assertEqual(one(ECHELON, whole([0, 0, 2, 4], [0, 3, 1, 5])), [0] + whole([0, 1, 0, 1], [0, 0, 1, 2]))
        self.assertEqual(one(ECHELON, whole([0, 0, -5])), [0] + whole([0, 0, 1]))

    def test_rows_exchanged(self):
        self.assertEqual(one(ECHELON, whole([0, 0, 3], [0, 2, 0], [4, 0, 0])), [0] + told(identity(3)))


class Kernel(unittest.TestCase):

    def test_one_free_column(self):
        self.assertEqual(one(KERNEL, WIDE), [0, 3, 1, 1, 1, -2, 1, 1, 1])
        self.assertEqual(one(KERNEL, SINGULAR), [0, 2, 1, -2, 1, 1, 1])

    def test_columns_in_order(self):
        self.assertEqual(one(KERNEL, whole([1, 2, 0, 3, 0], [0, 0, 1, 4, 0])),
                         [0] + whole([-2, -3, 0], [1, 0, 0], [0, -4, 0], [0, 1, 0], [0, 0, 1]))

    def test_first_column_free(self):
        self.assertEqual(one(KERNEL, whole([0, 2, 3])), [0, 3, 2, 1, 1, 0, 1, 0, 1, -3, 2, 0, 1, 1, 1])

    def test_quotients(self):
        self.assertEqual(one(KERNEL, [1, 2, 2, 4, 3, 9]), [0, 2, 1, -2, 3, 1, 1])

    def test_all_columns_free(self):
        self.assertEqual(one(KERNEL, [1, 9] + [0, 5] * 9), answered(identity(9)))
        self.assertEqual(one(KERNEL, [9, 9] + [0, 1] * 81), answered(identity(9)))
        self.assertEqual(one(KERNEL, [1, 1, 0, 3]), [0, 1, 1, 1, 1])

    def test_more_rows_than_columns(self):
        self.assertEqual(one(KERNEL, whole([1, 2], [2, 4], [3, 6])), [0, 2, 1, -2, 1, 1, 1])

    def test_no_free_column(self):
        for numbers in (SQUARE, HIGH, HALVES, [1, 1, 3, 6], [9, 1] + [0, 1] * 8 + [1, 7]):
            self.assertEqual(one(KERNEL, numbers), [-4])


class Determinant(unittest.TestCase):

    def test_ordinary(self):
        self.assertEqual(one(DETERMINANT, SQUARE), [0, 1, 1, -2, 1])
        self.assertEqual(one(DETERMINANT, HALVES), [0, 1, 1, 3, 8])
        self.assertEqual(one(DETERMINANT, [1, 1, -4, 6]), [0, 1, 1, -2, 3])
        self.assertEqual(one(DETERMINANT, whole([2, 0, 1], [1, 3, 2], [1, 1, 1])), [0, 1, 1, 0, 1])
        self.assertEqual(one(DETERMINANT, whole([2, 0, 1], [1, 3, 2], [1, 1, 4])), [0, 1, 1, 18, 1])

    def test_signs_of_exchanges(self):
        self.assertEqual(one(DETERMINANT, whole([0, 1], [1, 0])), [0, 1, 1, -1, 1])
        self.assertEqual(one(DETERMINANT, whole([0, 1, 0], [0, 0, 1], [1, 0, 0])), [0, 1, 1, 1, 1])
        self.assertEqual(one(DETERMINANT, whole([0, 0, 3], [0, 2, 0], [4, 0, 0])), [0, 1, 1, -24, 1])

    def test_0(self):
        self.assertEqual(one(DETERMINANT, SINGULAR), [0, 1, 1, 0, 1])
        self.assertEqual(one(DETERMINANT, [1, 1, 0, 9]), [0, 1, 1, 0, 1])
        self.assertEqual(one(DETERMINANT, whole([0, 2], [0, 3])), [0, 1, 1, 0, 1])
        self.assertEqual(one(DETERMINANT, whole([0, 0], [2, 3])), [0, 1, 1, 0, 1])


class Characteristic(unittest.TestCase):

    def test_ordinary(self):
        self.assertEqual(one(CHARACTERISTIC, SQUARE), [0, 1, 3, -2, 1, -5, 1, 1, 1])
        self.assertEqual(one(CHARACTERISTIC, HALVES), [0, 1, 3, 3, 8, -5, 4, 1, 1])
        self.assertEqual(one(CHARACTERISTIC, [1, 1, -4, 6]), [0, 1, 2, 2, 3, 1, 1])
        self.assertEqual(one(CHARACTERISTIC, whole([2, 0, 0], [0, 3, 0], [0, 0, 5])),
                         [0, 1, 4, -30, 1, 31, 1, -10, 1, 1, 1])

    def test_all_places_stand_where_coefficients_are_0(self):
        self.assertEqual(one(CHARACTERISTIC, [3, 3] + [0, 2] * 9), [0, 1, 4] + [0, 1] * 3 + [1, 1])
        self.assertEqual(one(CHARACTERISTIC, [8, 8] + [0, 2] * 64), [0, 1, 9] + [0, 1] * 8 + [1, 1])
        self.assertEqual(one(CHARACTERISTIC, [1, 1, 0, 4]), [0, 1, 2, 0, 1, 1, 1])
        self.assertEqual(one(CHARACTERISTIC, whole([0, 1], [1, 0])), [0, 1, 3, -1, 1, 0, 1, 1, 1])

    def test_companion(self):
        self.assertEqual(one(CHARACTERISTIC, [3, 3, 0, 1, 0, 1, 1, 2, 1, 1, 0, 1, -2, 3, 0, 1, 1, 1, 4, 8]),
                         [0, 1, 4, -1, 2, 2, 3, -1, 2, 1, 1])


class Inverse(unittest.TestCase):

    def test_ordinary(self):
        self.assertEqual(one(INVERSE, SQUARE), [0, 2, 2, -2, 1, 1, 1, 3, 2, -1, 2])
        self.assertEqual(one(INVERSE, HALVES), [0, 2, 2, 2, 1, 8, 9, 0, 1, 4, 3])
        self.assertEqual(one(INVERSE, [1, 1, -4, 6]), [0, 1, 1, -3, 2])
        self.assertEqual(one(INVERSE, whole([0, 0, 3], [0, 2, 0], [4, 0, 0])),
                         [0, 3, 3, 0, 1, 0, 1, 1, 4, 0, 1, 1, 2, 0, 1, 1, 3, 0, 1, 0, 1])

    def test_none(self):
        self.assertEqual(one(INVERSE, SINGULAR), [-4])
        self.assertEqual(one(INVERSE, [1, 1, 0, 9]), [-4])
        self.assertEqual(one(INVERSE, [9, 9] + [1, 3] * 81), [-4])
        self.assertEqual(one(INVERSE, whole([0, 2], [0, 3])), [-4])
        self.assertEqual(one(INVERSE, whole([1, 2, 3], [4, 5, 6], [7, 8, 9])), [-4])


class Refusals(unittest.TestCase):

    def test_op_out_of_range(self):
        for op in (-1, 6, 7, -6, 2 ** 64, -2 ** 64):
            for numbers in (SQUARE, WIDE, SINGULAR, [9, 9] + [0, 1] * 81):
                self.assertEqual(one(op, numbers), [-1], op)

    def test_not_square(self):
        for op in (DETERMINANT, CHARACTERISTIC, INVERSE):
            for rows, columns in ((1, 2), (2, 1), (2, 3), (3, 2), (8, 9), (9, 8), (1, 9), (9, 1)):
                # All entries 0: what would be -4, were it square, is -1.
                self.assertEqual(one(op, [rows, columns] + [0, 1] * (rows * columns)), [-1])

    def test_characteristic_of_9_rows(self):
        self.assertEqual(one(CHARACTERISTIC, told(identity(9))), [-1])
        self.assertEqual(one(CHARACTERISTIC, [9, 9] + [0, 1] * 81), [-1])
        self.assertEqual(one(CHARACTERISTIC, told(identity(8))),
                         [0, 1, 9, 1, 1, -8, 1, 28, 1, -56, 1, 70, 1, -56, 1, 28, 1, -8, 1, 1, 1])

    def test_9_rows_elsewhere(self):
        unit = told(identity(9))
        self.assertEqual(one(TURN, unit), [0] + unit)
        self.assertEqual(one(ECHELON, unit), [0] + unit)
        self.assertEqual(one(KERNEL, unit), [-4])
        self.assertEqual(one(DETERMINANT, unit), [0, 1, 1, 1, 1])
        self.assertEqual(one(INVERSE, unit), [0] + unit)


class Reckoned(unittest.TestCase):

    def check(self, numbers):
        a = read(numbers)
        self.assertEqual(one(TURN, numbers), answered(turned(a)))
        self.assertEqual(one(ECHELON, numbers), answered(echelon(a)[0]))
        columns = kernel(a)
        self.assertEqual(one(KERNEL, numbers), [-4] if columns is None else answered(columns))
        if columns is not None:
            self.assertFalse(any(any(row) for row in product(a, columns)))
        if len(a) == len(a[0]):
            self.check_square(numbers, a)

    def check_square(self, numbers, a):
        size = len(a)
        worth_of_it = determinant(a)
        self.assertEqual(one(DETERMINANT, numbers), answered([[worth_of_it]]))
        if size < 9:
            self.check_characteristic(one(CHARACTERISTIC, numbers), a)
        found = one(INVERSE, numbers)
        if worth_of_it == 0:
            self.assertEqual(found, [-4])
        else:
            b = read(found[1:])
            self.assertEqual(found, answered(b))
            self.assertEqual(product(a, b), identity(size))
            self.assertEqual(product(b, a), identity(size))

    def check_characteristic(self, found, a):
        rows = read(found[1:])
        self.assertEqual(found, answered(rows))
        self.assertEqual(found[1:3], [1, len(a) + 1])
        self.assertEqual(rows[0][-1], 1)
        for z in range(len(a) + 1):
            self.assertEqual(worth(rows[0], z), determinant(shifted(a, z)))

    def test_small_matrices_of_all_shapes(self):
        source = Source(3)
        for rows in range(1, 10):
            for columns in range(1, 10):
                for _ in range(2 if max(rows, columns) > 6 else 6):
                    self.check(source.small(rows, columns))

    def test_great_matrices(self):
        source = Source(4)
        for shape in ((9, 9), (8, 8), (8, 9), (9, 8), (4, 9), (1, 9), (9, 1)):
            self.check(source.great(*shape))

    def test_great_matrices_of_small_rank(self):
        source = Source(5)
        for rows, columns, rank in ((9, 9, 8), (9, 9, 5), (8, 8, 7), (8, 8, 3), (5, 9, 2), (9, 5, 2), (9, 9, 1)):
            self.check(source.poor(rows, columns, rank))

    def test_greatest_numbers(self):
        for rows, columns in ((9, 9), (8, 8), (2, 9)):
            top, bottom = BOUND - 1, BOUND - 2
            numbers = [rows, columns]
            for k in range(rows * columns):
                numbers += [(top, -bottom, -top)[k % 3], (bottom, top, 1, top)[k % 4]]
            self.check(numbers)


if __name__ == "__main__":
    unittest.main()
