import unittest

from exactmatrices.desk import one, solve, two
from reckoning import BOUND, Source, answered, echelon, identity, product, read, told

# 1 2 over 3 4
SQUARE = [2, 2, 1, 1, 2, 1, 3, 1, 4, 1]
# 1/2 -1/3 over 0 3/4, with terms that aren't the lowest
HALVES = [2, 2, 2, 4, -3, 9, 0, 17, 6, 8]
# 1 2 over 2 4
SINGULAR = [2, 2, 1, 1, 2, 1, 2, 1, 4, 1]


def whole(*rows):
    """The list of a matrix of whole numbers."""
    return told(rows)


class OneSolution(unittest.TestCase):

    def test_one_column(self):
        self.assertEqual(solve(SQUARE, whole([5], [6])), [0, 2, 1, -4, 1, 9, 2])
        self.assertEqual(solve(HALVES, [2, 1, 1, 1, 2, 4]), [0, 2, 1, 22, 9, 2, 3])
        self.assertEqual(solve([1, 1, -4, 6], [1, 1, 3, 9]), [0, 1, 1, -1, 2])

    def test_several_columns(self):
        self.assertEqual(solve(SQUARE, whole([5, 1, 0], [6, 0, 0])), [0, 2, 3, -4, 1, -2, 1, 0, 1, 9, 2, 3, 2, 0, 1])
        self.assertEqual(solve([1, 1, 2, 1], [1, 9] + [3, 1, 4, 1] * 4 + [5, 3]),
                         [0, 1, 9] + [3, 2, 2, 1] * 4 + [5, 6])

    def test_the_unit_beside_gives_the_inverse(self):
        self.assertEqual(solve(SQUARE, told(identity(2))), one(5, SQUARE))
        self.assertEqual(solve(HALVES, told(identity(2))), one(5, HALVES))

    def test_b_0(self):
        self.assertEqual(solve(SQUARE, [2, 3] + [0, 5] * 6), [0, 2, 3] + [0, 1] * 6)

    def test_rows_exchanged(self):
        self.assertEqual(solve(whole([0, 0, 3], [0, 2, 0], [4, 0, 0]), whole([3], [4], [8])),
                         [0, 3, 1, 2, 1, 2, 1, 1, 1])

    def test_more_rows_than_columns(self):
        self.assertEqual(solve(whole([1, 0], [0, 1], [1, 1]), whole([2], [3], [5])), [0, 2, 1, 2, 1, 3, 1])
        self.assertEqual(solve(whole([1], [2], [0]), whole([3, 1], [6, 2], [0, 0])), [0, 1, 2, 3, 1, 1, 1])
        self.assertEqual(solve(whole([0, 0], [1, 2], [0, 0], [3, 4]), whole([0], [5], [0], [6])),
                         [0, 2, 1, -4, 1, 9, 2])


class NoSolution(unittest.TestCase):

    def test_square(self):
        self.assertEqual(solve(SINGULAR, whole([1], [3])), [-4])
        self.assertEqual(solve([1, 1, 0, 5], [1, 1, 1, 5]), [-4])
        self.assertEqual(solve([3, 3] + [0, 1] * 9, whole([0], [0], [1])), [-4])

    def test_more_rows_than_columns(self):
        self.assertEqual(solve(whole([1, 0], [0, 1], [1, 1]), whole([2], [3], [6])), [-4])
        self.assertEqual(solve(whole([1], [1]), whole([1], [2])), [-4])
        self.assertEqual(solve(whole([1], [0]), whole([1], [1])), [-4])

    def test_more_columns_than_rows(self):
        self.assertEqual(solve(whole([1, 2, 3], [2, 4, 6]), whole([1], [1])), [-4])
        self.assertEqual(solve([1, 9] + [0, 1] * 9, [1, 1, 1, 1]), [-4])

    def test_one_column_of_b_has_none(self):
        # The first column of b has a solution, the second has none, and the other way round.
        high = whole([1, 0], [0, 1], [1, 1])
        self.assertEqual(solve(high, whole([2, 2], [3, 3], [5, 6])), [-4])
        self.assertEqual(solve(high, whole([2, 2], [3, 3], [6, 5])), [-4])
        self.assertEqual(solve(high, whole([0, 1, 0], [0, 0, 0], [0, 0, 0])), [-4])

    def test_one_column_of_b_has_none_and_the_others_several(self):
        self.assertEqual(solve(SINGULAR, whole([1, 1], [2, 3])), [-4])
        self.assertEqual(solve(SINGULAR, whole([1, 1], [3, 2])), [-4])
        self.assertEqual(solve(SINGULAR, whole([0, 1], [0, 0])), [-4])
        self.assertEqual(solve(whole([1, 2, 3], [2, 4, 6]), whole([1, 1], [2, 0])), [-4])
        self.assertEqual(solve([1, 1, 0, 1], whole([0, 0, 4])), [-4])


class SeveralSolutions(unittest.TestCase):

    def test_square(self):
        self.assertEqual(solve(SINGULAR, whole([1], [2])), [-5])
        self.assertEqual(solve(SINGULAR, whole([0, 1], [0, 2])), [-5])
        self.assertEqual(solve([1, 1, 0, 1], [1, 1, 0, 3]), [-5])
        self.assertEqual(solve([9, 9] + [0, 1] * 81, [9, 9] + [0, 1] * 81), [-5])
        self.assertEqual(solve(whole([0, 1], [0, 2]), whole([1], [2])), [-5])

    def test_more_columns_than_rows(self):
        self.assertEqual(solve(whole([1, 2, 3], [4, 5, 6]), whole([1], [1])), [-5])
        self.assertEqual(solve(whole([1, 0]), whole([1])), [-5])
        self.assertEqual(solve(whole([0, 1]), whole([1])), [-5])
        self.assertEqual(solve(whole([1, 2, 3], [2, 4, 6]), whole([1], [2])), [-5])

    def test_more_rows_than_columns(self):
        self.assertEqual(solve(whole([1, 2], [2, 4], [3, 6]), whole([1], [2], [3])), [-5])


class Refusals(unittest.TestCase):

    def test_not_as_many_rows(self):
        for rows in range(1, 10):
            for others in range(1, 10):
                a = [rows, 2] + [0, 1] * (2 * rows)
                b = [others, 3] + [0, 1] * (3 * others)
                self.assertEqual(solve(a, b), [-5] if rows == others else [-1])
        self.assertEqual(solve(SQUARE, whole([1, 2])), [-1])
        self.assertEqual(solve(SINGULAR, whole([1], [3], [1])), [-1])

    def test_no_matrix_is_said_first(self):
        for numbers in ([], [3, 1, 1, 1], [2, 1, 1, 1, 1, 0], [2, 1, 1, 1, BOUND, 1]):
            for other in (SQUARE, SINGULAR, whole([1, 2]), [2, 2] + [0, 1] * 4):
                self.assertEqual(solve(numbers, other), [-6])
                self.assertEqual(solve(other, numbers), [-6])


class Reckoned(unittest.TestCase):

    def check(self, numbers, others):
        a = read(numbers)
        b = read(others)
        width = len(a[0])
        rows, begins = echelon([x + y for x, y in zip(a, b)])
        found = solve(numbers, others)
        if [begin for begin in begins if begin >= width]:
            self.assertEqual(found, [-4])
        elif len(begins) < width:
            self.assertEqual(found, [-5])
        else:
            x = read(found[1:])
            self.assertEqual(found, answered(x))
            self.assertEqual(product(a, x), b)
        return found[0]

    def test_small_matrices_of_all_shapes(self):
        source = Source(20)
        seen = set()
        for rows in range(1, 10):
            for columns in range(1, 10):
                for width in (1, 2, 9):
                    seen.add(self.check(source.small(rows, columns), source.small(rows, width)))
        self.assertEqual(seen, {0, -4, -5})

    def test_small_matrices_with_a_solution(self):
        source = Source(21)
        for rows in range(1, 10):
            for columns in range(1, 10):
                numbers = source.small(rows, columns)
                x = read(source.small(columns, 3))
                self.assertIn(self.check(numbers, told(product(read(numbers), x))), (0, -5))

    def test_great_matrices(self):
        source = Source(22)
        self.assertEqual(self.check(source.great(9, 9), source.great(9, 9)), 0)
        self.assertEqual(self.check(source.great(9, 9), source.great(9, 1)), 0)
        self.assertEqual(self.check(source.great(9, 5), source.great(9, 3)), -4)
        self.assertEqual(self.check(source.great(5, 9), source.great(5, 3)), -5)
        self.assertEqual(self.check(source.great(1, 1), source.great(1, 9)), 0)

    def test_great_matrices_of_small_rank(self):
        source = Source(23)
        numbers = source.poor(9, 9, 8)
        self.assertEqual(self.check(numbers, source.great(9, 9)), -4)
        inside = two(2, numbers, source.small(9, 2))[1:]
        self.assertEqual(self.check(numbers, inside), -5)
        high = source.poor(9, 4, 4)
        self.assertEqual(self.check(high, two(2, high, source.small(4, 9))[1:]), 0)


if __name__ == "__main__":
    unittest.main()
