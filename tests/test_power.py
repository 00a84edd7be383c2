import math
import unittest
from fractions import Fraction

from exactmatrices.desk import power, two
from reckoning import BOUND, Source, answered, identity, product, read, rest_of, told

FAR = 2 ** 64
# 1 2 over 3 4
SQUARE = [2, 2, 1, 1, 2, 1, 3, 1, 4, 1]
# 1/2 -1/3 over 0 3/4, with terms that aren't the lowest
HALVES = [2, 2, 2, 4, -3, 9, 0, 17, 6, 8]
# 1 1 over 1 0: its powers hold Fibonacci's numbers
FIBONACCI = [2, 2, 1, 1, 1, 1, 1, 1, 0, 1]


def raised(a, k):
    """By one factor after another."""
    result = identity(len(a))
    for _ in range(k):
        result = product(result, a)
    return result


def raised_in_rests(a, k, prime):
    """The power's entries as rests by a prime."""
    rests = [[rest_of(x, prime) for x in row] for row in a]
    result = [[int(i == j) for j in range(len(a))] for i in range(len(a))]
    for _ in range(k):
        result = [[sum(x * y for x, y in zip(row, column)) % prime for column in zip(*rests)] for row in result]
    return result


class Powers(unittest.TestCase):

    def test_0(self):
        self.assertEqual(power(0, SQUARE), [0, 2, 2, 1, 1, 0, 1, 0, 1, 1, 1])
        self.assertEqual(power(0, [1, 1, -4, 6]), [0, 1, 1, 1, 1])
        self.assertEqual(power(0, [1, 1, 0, 5]), [0, 1, 1, 1, 1])
        self.assertEqual(power(0, [3, 3] + [0, 1] * 9), answered(identity(3)))
        self.assertEqual(power(0, Source(9).great(9, 9)), answered(identity(9)))

    def test_1_is_the_matrix_in_lowest_terms(self):
        self.assertEqual(power(1, SQUARE), [0] + SQUARE)
        self.assertEqual(power(1, HALVES), [0, 2, 2, 1, 2, -1, 3, 0, 1, 3, 4])

    def test_2(self):
        self.assertEqual(power(2, SQUARE), [0, 2, 2, 7, 1, 10, 1, 15, 1, 22, 1])
        self.assertEqual(power(2, HALVES), [0, 2, 2, 1, 4, -5, 12, 0, 1, 9, 16])

    def test_64(self):
        self.assertEqual(power(64, FIBONACCI),
                         [0, 2, 2, 17167680177565, 1, 10610209857723, 1, 10610209857723, 1, 6557470319842, 1])
        self.assertEqual(power(64, [2, 2, 1, 2, 0, 1, 0, 1, -3, 1]),
                         [0, 2, 2, 1, 2 ** 64, 0, 1, 0, 1, 3 ** 64, 1])
        self.assertEqual(power(64, HALVES), answered(raised(read(HALVES), 64)))

    def test_one_row(self):
        for k in (0, 1, 2, 3, 63, 64):
            self.assertEqual(power(k, [1, 1, -4, 6]), answered([[Fraction(-2, 3) ** k]]))
            self.assertEqual(power(k, [1, 1, 0, 6]), [0, 1, 1, int(k == 0), 1])
            self.assertEqual(power(k, [1, 1, 1 - BOUND, BOUND - 2]),
                             [0, 1, 1, (1 - BOUND) ** k, (BOUND - 2) ** k])

    def test_all_entries_0(self):
        for k in (1, 2, 5, 64):
            self.assertEqual(power(k, [4, 4] + [0, 7] * 16), [0, 4, 4] + [0, 1] * 16)

    def test_powers_that_become_0(self):
        numbers = told([[Fraction(int(j == i + 1), 3 + i) for j in range(5)] for i in range(5)])
        for k in (4, 5, 6, 64):
            self.assertEqual(power(k, numbers), answered(raised(read(numbers), k)))
        self.assertEqual(power(5, numbers), [0, 5, 5] + [0, 1] * 25)

    def test_powers_whose_bottoms_go_away(self):
        # 0 2/3 over 3/2 0: its square is 1.
        numbers = [2, 2, 0, 1, 2, 3, 3, 2, 0, 1]
        self.assertEqual(power(64, numbers), answered(identity(2)))
        self.assertEqual(power(63, numbers), [0] + numbers)

    def test_entries_with_bottoms_of_their_own(self):
        numbers = told([[Fraction(1, 2), 0, 0], [0, Fraction(2, 3), 0], [0, 0, Fraction(5, 7)]])
        self.assertEqual(power(64, numbers), [0, 3, 3, 1, 2 ** 64, 0, 1, 0, 1, 0, 1, 2 ** 64, 3 ** 64, 0, 1,
                                              0, 1, 0, 1, 5 ** 64, 7 ** 64])

    def test_every_exponent(self):
        for numbers in (SQUARE, HALVES, FIBONACCI, Source(10).small(4, 4), Source(11).great(2, 2)):
            a = read(numbers)
            expected = identity(len(a))
            for k in range(65):
                self.assertEqual(power(k, numbers), answered(expected), k)
                expected = product(expected, a)

    def test_small_matrices_of_all_sizes(self):
        source = Source(12)
        for size in range(1, 10):
            for k in (0, 1, 2, 3, 10, 31):
                numbers = source.small(size, size)
                self.assertEqual(power(k, numbers), answered(raised(read(numbers), k)))

    def test_what_is_handed_in_may_be_a_power_itself(self):
        third = power(3, HALVES)[1:]
        self.assertEqual(power(4, third), power(12, HALVES))
        self.assertEqual(two(2, power(5, HALVES)[1:], third), power(8, HALVES))


class Great(unittest.TestCase):

    def check(self, numbers, k):
        """What equals the power in the rests by two primes beyond all doubt is it; besides, lowest terms."""
        found = power(k, numbers)
        a = read(numbers)
        size = len(a)
        self.assertEqual(found[:3], [0, size, size])
        self.assertEqual(len(found), 3 + 2 * size * size)
        tops, bottoms = found[3::2], found[4::2]
        self.assertGreaterEqual(min(bottoms), 1)
        for prime in (2 ** 521 - 1, 2 ** 607 - 1):
            rests = [top * pow(bottom, -1, prime) % prime for top, bottom in zip(tops, bottoms)]
            self.assertEqual(rests, sum(raised_in_rests(a, k, prime), []))
        scale = math.lcm(*[x.denominator for row in a for x in row])
        for top, bottom in zip(tops, bottoms):
            # Each prime factor of a bottom is one of the scale's, so this tells whether there's one in common.
            self.assertEqual(math.gcd(top, math.gcd(bottom, scale)), 1)

    def test_9_rows_of_whole_numbers(self):
        edge = BOUND - 1
        numbers = [9, 9]
        for k in range(81):
            numbers += [(edge, -edge, edge - 1, 5 - edge)[k % 4], 1]
        found = power(64, numbers)
        self.assertEqual(found, answered(raised(read(numbers), 64)))

    def test_9_rows_of_quotients(self):
        self.check(Source(13).great(9, 9), 64)

    def test_9_rows_of_quotients_at_an_odd_exponent(self):
        self.check(Source(14).great(9, 9), 15)

    def test_9_rows_in_blocks(self):
        rows = [[Fraction(0)] * 9 for _ in range(9)]
        source = Source(15)
        for start, size in ((0, 2), (2, 3), (5, 4)):
            for i, row in enumerate(read(source.great(size, size))):
                rows[start + i][start:start + size] = row
        self.check(told(rows), 64)

    def test_9_rows_with_nothing_below_the_diagonal(self):
        rows = read(Source(16).great(9, 9))
        self.check(told([[x if j >= i else Fraction(0) for j, x in enumerate(row)] for i, row in enumerate(rows)]), 30)


class Refusals(unittest.TestCase):

    def test_not_square(self):
        for rows, columns in ((1, 2), (2, 1), (2, 3), (3, 2), (8, 9), (9, 8), (1, 9), (9, 1)):
            for k in (0, 1, 2, 64, -1, 65):
                self.assertEqual(power(k, [rows, columns] + [1, 1] * (rows * columns)), [-1])

    def test_exponent_out_of_range(self):
        for k in (-1, 65, -2, 66, -64, 128, FAR, -FAR):
            for numbers in (SQUARE, [1, 1, 1, 1], [1, 1, 0, 1], told(identity(9))):
                self.assertEqual(power(k, numbers), [-1], k)

    def test_no_matrix_is_said_first(self):
        for k in (0, 64, -1, 65, FAR, -FAR):
            self.assertEqual(power(k, [2, 3, 1, 1]), [-6])
            self.assertEqual(power(k, [1, 1, 5, 0]), [-6])


if __name__ == "__main__":
    unittest.main()
