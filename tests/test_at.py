import math
import unittest
from fractions import Fraction

from exactmatrices.desk import at, one, poly, power, two
from reckoning import BOUND, Source, answered, identity, product, read, rest_of, told

# 1 2 over 3 4
SQUARE = [2, 2, 1, 1, 2, 1, 3, 1, 4, 1]
# 1/2 -1/3 over 0 3/4, with terms that aren't the lowest
HALVES = [2, 2, 2, 4, -3, 9, 0, 17, 6, 8]


def row(*coefficients):
    """The list of a polynomial, that of power 0 first."""
    return told([coefficients])


def worth(f, a):
    """By the powers, one after another."""
    size = len(a)
    result = [[Fraction(0)] * size for _ in range(size)]
    term = identity(size)
    for x in f:
        result = [[u + x * v for u, v in zip(line, other)] for line, other in zip(result, term)]
        term = product(term, a)
    return result


def worth_in_rests(f, a, prime):
    size = len(a)
    rests = [[rest_of(x, prime) for x in line] for line in a]
    result = [[0] * size for _ in range(size)]
    for x in reversed(f):
        result = [[sum(u * v for u, v in zip(line, column)) % prime for column in zip(*rests)] for line in result]
        for k in range(size):
            result[k][k] = (result[k][k] + rest_of(x, prime)) % prime
    return result


class Worths(unittest.TestCase):

    def test_ordinary(self):
        self.assertEqual(at(row(1, 0, 1), SQUARE), [0, 2, 2, 8, 1, 10, 1, 15, 1, 23, 1])
        self.assertEqual(at(row(5, -2), SQUARE), [0, 2, 2, 3, 1, -4, 1, -6, 1, -3, 1])
        self.assertEqual(at([1, 3, 1, 2, 0, 1, 4, 6], HALVES), [0, 2, 2, 2, 3, -5, 18, 0, 1, 7, 8])

    def test_degree_0(self):
        self.assertEqual(at(row(7), SQUARE), [0, 2, 2, 7, 1, 0, 1, 0, 1, 7, 1])
        self.assertEqual(at([1, 1, -4, 6], HALVES), [0, 2, 2, -2, 3, 0, 1, 0, 1, -2, 3])
        self.assertEqual(at(row(7, 0, 0), SQUARE), [0, 2, 2, 7, 1, 0, 1, 0, 1, 7, 1])

    def test_0(self):
        for f in (row(0), row(0, 0, 0), [1, 9] + [0, 5] * 9):
            for size in (1, 2, 9):
                a = [size, size] + [3, 7] * size * size
                self.assertEqual(at(f, a), [0, size, size] + [0, 1] * size * size)

    def test_coefficients_of_0_at_the_end(self):
        for zeros in range(7):
            self.assertEqual(at(row(5, -2, *[0] * zeros), SQUARE), at(row(5, -2), SQUARE))

    def test_the_power_alone(self):
        for k in range(9):
            f = row(*[0] * k, 1)
            for a in (SQUARE, HALVES, [1, 1, -4, 6], [3, 3] + [0, 1] * 9):
                self.assertEqual(at(f, a), power(k, a))

    def test_one_row(self):
        f = [Fraction(k - 3, k + 1) for k in range(9)]
        for x in (Fraction(0), Fraction(1), Fraction(-2, 3), Fraction(7)):
            expected = sum(c * x ** k for k, c in enumerate(f))
            self.assertEqual(at(told([f]), told([[x]])), answered([[expected]]))

    def test_at_0_only_the_first_coefficient_is_left(self):
        self.assertEqual(at(row(4, 5, 6), [3, 3] + [0, 2] * 9), answered([[4, 0, 0], [0, 4, 0], [0, 0, 4]]))

    def test_diagonal(self):
        f = row(-6, 11, -6, 1)
        a = told([[k if i == k else 0 for k in range(5)] for i in range(5)])
        expected = told([[(k - 1) * (k - 2) * (k - 3) if i == k else 0 for k in range(5)] for i in range(5)])
        self.assertEqual(at(f, a), [0] + expected)

    def test_all_of_9_places_at_9_rows(self):
        f = row(*[1] * 9)
        shift = [[int(i == j + 1) for j in range(9)] for i in range(9)]
        self.assertEqual(at(f, told(shift)), answered([[int(i >= j) for j in range(9)] for i in range(9)]))
        self.assertEqual(at(f, told(identity(9))), answered([[9 * int(i == j) for j in range(9)] for i in range(9)]))

    def test_the_worth_of_a_product_is_the_product_of_the_worths(self):
        f = row(1, Fraction(2, 3), -5)
        g = row(Fraction(-1, 7), 4)
        for a in (SQUARE, HALVES):
            self.assertEqual(at(poly(2, f, g)[1:], a), two(2, at(f, a)[1:], at(g, a)[1:]))


class Characteristic(unittest.TestCase):
    """The characteristic polynomial of a at a is 0."""

    def check(self, numbers):
        size = numbers[0]
        f = one(4, numbers)[1:]
        self.assertEqual(at(f, numbers), [0, size, size] + [0, 1] * size * size)

    def test_small_matrices(self):
        source = Source(80)
        for size in range(1, 9):
            for _ in range(5):
                self.check(source.small(size, size))

    def test_great_matrices(self):
        # What the polynomial is handed in as is below the bound too.
        source = Source(81)
        for size in range(1, 9):
            edge = 10 ** (39 // size - 1)
            for _ in range(3):
                rows = [[source.draw.randrange(-edge, edge) for _ in range(size)] for _ in range(size)]
                self.check(told(rows))

    def test_of_a_smaller_degree_it_is_not(self):
        # 2 on the diagonal and 1 beside it: no polynomial of degree below 8 is 0 there.
        rows = [[2 if i == j else int(j == i + 1) for j in range(8)] for i in range(8)]
        numbers = told(rows)
        self.check(numbers)
        f = poly(3, one(4, numbers)[1:], row(-2, 1))[1:]
        self.assertEqual(at(f, numbers), answered([[int((i, j) == (0, 7)) for j in range(8)] for i in range(8)]))


class Reckoned(unittest.TestCase):

    def test_small(self):
        source = Source(82)
        for size in range(1, 10):
            for places in (1, 2, 3, 9):
                f = source.small(1, places)
                a = source.small(size, size)
                self.assertEqual(at(f, a), answered(worth(read(f)[0], read(a))))

    def check_great(self, f, numbers):
        """What equals the worth in the rests by two primes beyond all doubt is it; besides, lowest terms."""
        found = at(f, numbers)
        a = read(numbers)
        size = len(a)
        self.assertEqual(found[:3], [0, size, size])
        tops, bottoms = found[3::2], found[4::2]
        self.assertEqual((len(tops), len(bottoms)), (size * size, size * size))
        self.assertGreaterEqual(min(bottoms), 1)
        for prime in (2 ** 521 - 1, 2 ** 607 - 1):
            rests = [top * pow(bottom, -1, prime) % prime for top, bottom in zip(tops, bottoms)]
            self.assertEqual(rests, sum(worth_in_rests(read(f)[0], a, prime), []))
        for top, bottom in zip(tops, bottoms):
            self.assertEqual(math.gcd(top, bottom), 1)

    def test_great(self):
        source = Source(83)
        self.check_great(source.great(1, 9), source.great(9, 9))
        self.check_great(source.great(1, 2), source.great(9, 9))
        self.check_great(source.great(1, 9), source.great(1, 1))
        self.check_great(source.great(1, 9), source.small(9, 9))
        self.check_great(source.small(1, 9), source.great(4, 4))

    def test_bottoms_in_common(self):
        edge = BOUND - 1
        self.check_great([1, 9] + [1, edge] * 9, [3, 3] + [1, edge, -1, edge, 2, edge - 1] * 3)
        self.check_great([1, 3] + [edge, 1, 1, edge, edge, 2], [2, 2] + [edge, 2, 2, edge, -edge, 4, edge, 1])


class Refusals(unittest.TestCase):

    def test_f_of_more_than_one_row(self):
        for f in ([2, 1, 1, 1, 2, 1], [2, 2] + [0, 1] * 4, [9, 9] + [1, 1] * 81, [9, 1] + [0, 1] * 9):
            for a in (SQUARE, [1, 1, 2, 1], [1, 2, 1, 1, 1, 1], told(identity(9))):
                self.assertEqual(at(f, a), [-1])

    def test_a_not_square(self):
        for rows, columns in ((1, 2), (2, 1), (2, 3), (3, 2), (8, 9), (9, 8), (1, 9), (9, 1)):
            for f in (row(1, 2), row(0), row(7)):
                self.assertEqual(at(f, [rows, columns] + [1, 1] * (rows * columns)), [-1])

    def test_no_matrix_is_said_first(self):
        for numbers in ([], [1, 1, 1, 0], [1, 2, 1, 1], [2, 1, 1, 1], [1, 10] + [1, 1] * 10, [1, 1, BOUND, 1]):
            for other in (row(1, 2), row(0), SQUARE, [2, 1, 1, 1, 1, 1], [2, 3] + [0, 1] * 6):
                self.assertEqual(at(numbers, other), [-6])
                self.assertEqual(at(other, numbers), [-6])


if __name__ == "__main__":
    unittest.main()
