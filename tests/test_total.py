import unittest
from fractions import Fraction

from exactmatrices.desk import total
from reckoning import BOUND, Source, answered, echelon, identity, product, read, told, turned

# 1/2 1/3 over 0 1/4, with terms that aren't the lowest
SETTLING = [2, 2, 2, 4, 3, 9, 0, 17, 6, 24]


def whole(*rows):
    """The list of a matrix of whole numbers."""
    return told(rows)


def plus(a, b):
    return [[x + y for x, y in zip(row, other)] for row, other in zip(a, b)]


def carried(a, x):
    """a x a'"""
    return product(product(a, x), turned(a))


def unit_at(size, place):
    return [[Fraction(int(size * i + j == place)) for j in range(size)] for i in range(size)]


def expected_refusal(a, q):
    """The refusal, by what x - a x a' makes of each matrix with a single 1; 0 if there's just one solution."""
    size = len(a)
    columns = []
    for place in range(size * size):
        x = unit_at(size, place)
        columns.append([u - v for row, other in zip(x, carried(a, x)) for u, v in zip(row, other)])
    columns.append([entry for row in q for entry in row])
    begins = echelon(turned(columns))[1]
    if size * size in begins:
        return -4
    return -5 if len(begins) < size * size else 0


class OneSolution(unittest.TestCase):

    def test_one_row(self):
        self.assertEqual(total([1, 1, 1, 2], [1, 1, 1, 1]), [0, 1, 1, 4, 3])
        self.assertEqual(total([1, 1, -1, 2], [1, 1, 3, 1]), [0, 1, 1, 4, 1])
        self.assertEqual(total([1, 1, 2, 1], [1, 1, 6, 4]), [0, 1, 1, -1, 2])
        self.assertEqual(total([1, 1, 0, 2], [1, 1, 6, 4]), [0, 1, 1, 3, 2])
        self.assertEqual(total([1, 1, 1, 2], [1, 1, 0, 7]), [0, 1, 1, 0, 1])

    def test_two_rows(self):
        found = total(SETTLING, told(identity(2)))
        self.assertEqual(found, [0, 2, 2, 484, 315, 32, 315, 32, 315, 16, 15])

    def test_diagonal(self):
        # Each entry i, j by itself: x = r s x + q.
        a = told([[Fraction(1, 2), 0, 0], [0, 3, 0], [0, 0, Fraction(-1, 5)]])
        q = whole([1, 2, 3], [4, 5, 6], [7, 8, 9])
        factors = [Fraction(1, 2), Fraction(3), Fraction(-1, 5)]
        expected = [[Fraction(3 * i + j + 1) / (1 - factors[i] * factors[j]) for j in range(3)] for i in range(3)]
        self.assertEqual(total(a, q), answered(expected))

    def test_q_that_is_not_its_own_turned_about(self):
        q = whole([0, 1], [0, 0])
        found = total(SETTLING, q)
        self.assertEqual(found, [0, 2, 2, 16, 63, 8, 7, 0, 1, 0, 1])
        turned_about = total(SETTLING, whole([0, 0], [1, 0]))
        self.assertEqual(turned_about, [0, 2, 2, 16, 63, 0, 1, 8, 7, 0, 1])

    def test_a_that_does_not_settle(self):
        # There's one solution all the same: no two of 2, 3, and 5 have the product 1.
        a = whole([2, 1, 0], [0, 3, 1], [0, 0, 5])
        q = whole([1, 0, 2], [0, 1, 0], [5, 0, 1])
        x = read(total(a, q)[1:])
        self.assertEqual(x, plus(carried(read(a), x), read(q)))

    def test_a_0(self):
        q = whole([1, 2], [3, 4])
        self.assertEqual(total([2, 2] + [0, 1] * 4, q), [0] + q)

    def test_the_sum_of_a_run_that_ends(self):
        a = whole([0, 2, 1, 3], [0, 0, 5, 1], [0, 0, 0, 4], [0, 0, 0, 0])
        q = whole([1, 2, 3, 4], [5, 6, 7, 8], [9, 1, 2, 3], [4, 5, 6, 7])
        expected = term = read(q)
        for _ in range(3):
            term = carried(read(a), term)
            expected = plus(expected, term)
        self.assertEqual(total(a, q), answered(expected))


class NotOneSolution(unittest.TestCase):

    def test_one_row(self):
        for numbers in ([1, 1, 1, 1], [1, 1, -1, 1], [1, 1, 7, 7], [1, 1, -7, 7]):
            self.assertEqual(total(numbers, [1, 1, 0, 1]), [-5])
            self.assertEqual(total(numbers, [1, 1, 1, 1]), [-4])
            self.assertEqual(total(numbers, [1, 1, -1, BOUND - 1]), [-4])

    def test_two_factors_with_the_product_1(self):
        a = [2, 2, 2, 1, 0, 1, 0, 1, 1, 2]
        self.assertEqual(total(a, whole([1, 0], [0, 1])), [-5])
        self.assertEqual(total(a, whole([1, 1], [0, 1])), [-4])
        self.assertEqual(total(a, whole([1, 0], [1, 1])), [-4])
        self.assertEqual(total(a, whole([0, 0], [0, 0])), [-5])

    def test_a_quarter_turn(self):
        a = whole([0, -1], [1, 0])
        self.assertEqual(total(a, whole([0, 0], [0, 0])), [-5])
        self.assertEqual(total(a, whole([1, 0], [0, 1])), [-4])
        self.assertEqual(total(a, whole([1, 0], [0, -1])), [-5])

    def test_the_unit(self):
        for size in range(1, 5):
            self.assertEqual(total(told(identity(size)), [size, size] + [0, 1] * size * size), [-5])
            self.assertEqual(total(told(identity(size)), [size, size] + [0, 1] * (size * size - 1) + [1, 1]), [-4])


class Refusals(unittest.TestCase):

    def test_not_square(self):
        for rows, columns in ((1, 2), (2, 1), (3, 2), (3, 4), (4, 3), (4, 9), (1, 9)):
            numbers = [rows, columns] + [1, 1] * (rows * columns)
            self.assertEqual(total(numbers, numbers), [-1])
            self.assertEqual(total(numbers, [rows, rows] + [1, 1] * (rows * rows)), [-1])

    def test_q_of_another_shape(self):
        for size in range(1, 5):
            for rows in range(1, 6):
                for columns in range(1, 6):
                    if (rows, columns) != (size, size):
                        q = [rows, columns] + [0, 1] * (rows * columns)
                        self.assertEqual(total(told(identity(size)), q), [-1])

    def test_more_than_4_rows(self):
        for size in range(5, 10):
            zeros = [size, size] + [0, 1] * (size * size)
            self.assertEqual(total(zeros, zeros), [-1])
            self.assertEqual(total(told(identity(size)), zeros), [-1])
        self.assertEqual(total([4, 4] + [0, 1] * 16, [4, 4] + [1, 2] * 16), [0, 4, 4] + [1, 2] * 16)

    def test_no_matrix_is_said_first(self):
        for numbers in ([], [5, 5, 1, 1], [1, 1, 1, 0], [2, 2, 1, 1, 1, 1, 1, 1, BOUND, 1]):
            for other in (SETTLING, [1, 1, 1, 1], [1, 2, 1, 1, 1, 1], told(identity(5))):
                self.assertEqual(total(numbers, other), [-6])
                self.assertEqual(total(other, numbers), [-6])


class Reckoned(unittest.TestCase):

    def check(self, numbers, others):
        a = read(numbers)
        q = read(others)
        refusal = expected_refusal(a, q)
        found = total(numbers, others)
        if refusal:
            self.assertEqual(found, [refusal])
        else:
            x = read(found[1:])
            self.assertEqual(found, answered(x))
            self.assertEqual(x, plus(carried(a, x), q))
        return refusal

    def test_small_matrices(self):
        source = Source(30)
        for size in range(1, 5):
            for _ in range(25):
                self.check(source.small(size, size), source.small(size, size))

    def test_whole_numbers_with_all_refusals(self):
        source = Source(31)
        seen = set()
        for size in range(1, 4):
            for _ in range(60):
                a = whole(*[[source.draw.randrange(-1, 2) for _ in range(size)] for _ in range(size)])
                q = whole(*[[source.draw.randrange(0, 2) for _ in range(size)] for _ in range(size)])
                seen.add(self.check(a, q))
                x = read(source.small(size, size))
                inside = [[u - v for u, v in zip(row, other)] for row, other in zip(x, carried(read(a), x))]
                self.assertIn(self.check(a, told(inside)), (0, -5))
        self.assertEqual(seen, {0, -4, -5})

    def test_great_matrices(self):
        source = Source(32)
        for size in range(1, 5):
            self.assertEqual(self.check(source.great(size, size), source.great(size, size)), 0)


if __name__ == "__main__":
    unittest.main()
