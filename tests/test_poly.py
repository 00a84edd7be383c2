import unittest
from fractions import Fraction

from exactmatrices.desk import poly
from reckoning import BOUND, Source, read, told

SUM, DIFFERENCE, PRODUCT, QUOTIENT, REST, COMMON = range(6)
FAR = 2 ** 64


def row(*coefficients):
    """The list of a polynomial, that of power 0 first."""
    return told([coefficients])


def trimmed(f):
    f = list(f)
    while f and f[-1] == 0:
        f.pop()
    return f


def answered(f):
    """The answer that tells a polynomial."""
    return [0] + told([trimmed(f) or [0]])


def multiplied(f, g):
    result = [Fraction(0)] * (len(f) + len(g) - 1)
    for i, x in enumerate(f):
        for j, y in enumerate(g):
            result[i + j] += x * y
    return result


def divided(f, g):
    """Quotient and rest, by division with quotients."""
    g = trimmed(g)
    rest = trimmed(f)
    quotient = [Fraction(0)] * max(len(rest) - len(g) + 1, 0)
    while len(rest) >= len(g):
        shift = len(rest) - len(g)
        factor = Fraction(rest[-1]) / g[-1]
        quotient[shift] = factor
        for k, x in enumerate(g):
            rest[shift + k] -= factor * x
        rest = trimmed(rest)
    return quotient, rest


def common(f, g):
    f, g = trimmed(f), trimmed(g)
    while g:
        rest = divided(f, g)[1]
        f, g = g, [x / rest[-1] for x in rest]
    return [Fraction(x) / f[-1] for x in f]


class Sums(unittest.TestCase):

    def test_ordinary(self):
        self.assertEqual(poly(SUM, row(1, 2, 3), row(4, 5)), answered([5, 7, 3]))
        self.assertEqual(poly(SUM, row(4, 5), row(1, 2, 3)), answered([5, 7, 3]))
        self.assertEqual(poly(DIFFERENCE, row(1, 2, 3), row(4, 5)), answered([-3, -3, 3]))
        self.assertEqual(poly(DIFFERENCE, row(4, 5), row(1, 2, 3)), answered([3, 3, -3]))

    def test_quotients(self):
        f = [1, 2, 2, 4, -3, 9]
        g = [1, 2, 1, 3, 5, 6]
        self.assertEqual(poly(SUM, f, g), [0, 1, 2, 5, 6, 1, 2])
        self.assertEqual(poly(DIFFERENCE, f, g), [0, 1, 2, 1, 6, -7, 6])

    def test_leading_coefficients_that_go_away(self):
        self.assertEqual(poly(SUM, row(1, 2, 3), row(1, 1, -3)), answered([2, 3]))
        self.assertEqual(poly(SUM, row(1, 2, 3), row(1, -2, -3)), answered([2]))
        self.assertEqual(poly(DIFFERENCE, row(1, 2, 3), row(0, 2, 3)), answered([1]))
        self.assertEqual(poly(DIFFERENCE, row(1, 0, 0, 3), row(0, 0, 0, 3)), answered([1]))
        self.assertEqual(poly(DIFFERENCE, row(0, 4, 0, 3), row(0, 0, 0, 3)), [0, 1, 2, 0, 1, 4, 1])

    def test_0_has_one_place(self):
        self.assertEqual(poly(SUM, row(1, 2, 3), row(-1, -2, -3)), [0, 1, 1, 0, 1])
        self.assertEqual(poly(DIFFERENCE, row(1, 2, 3), row(1, 2, 3)), [0, 1, 1, 0, 1])
        self.assertEqual(poly(DIFFERENCE, [1, 1, 2, 4], [1, 1, 1, 2]), [0, 1, 1, 0, 1])
        self.assertEqual(poly(SUM, [1, 9] + [0, 3] * 9, [1, 4] + [0, 2] * 4), [0, 1, 1, 0, 1])

    def test_coefficients_of_0_at_the_end(self):
        self.assertEqual(poly(SUM, row(1, 2, 0, 0), row(4, 5, 0)), answered([5, 7]))
        self.assertEqual(poly(DIFFERENCE, row(1, 0, 0, 0), row(0)), answered([1]))
        self.assertEqual(poly(SUM, row(0, 0, 7), row(0, 0, 0, 0, 0, 0, 0, 0, 0)), answered([0, 0, 7]))

    def test_all_of_9_places(self):
        ones = row(*[1] * 9)
        self.assertEqual(poly(SUM, ones, ones), [0, 1, 9] + [2, 1] * 9)
        self.assertEqual(poly(DIFFERENCE, ones, row(*[3] * 9)), [0, 1, 9] + [-2, 1] * 9)


class Products(unittest.TestCase):

    def test_ordinary(self):
        self.assertEqual(poly(PRODUCT, row(1, 2), row(3, 4)), answered([3, 10, 8]))
        self.assertEqual(poly(PRODUCT, row(-1, 1), row(1, 1, 1, 1)), answered([-1, 0, 0, 0, 1]))
        self.assertEqual(poly(PRODUCT, [1, 2, 2, 4, -3, 9], [1, 2, 1, 3, 5, 6]), [0, 1, 3, 1, 6, 11, 36, -5, 18])
        self.assertEqual(poly(PRODUCT, row(0, 0, 5), row(0, 2)), answered([0, 0, 0, 10]))

    def test_0(self):
        for f in (row(1, 2, 3), row(0), row(*[1] * 9), row(*[0] * 9)):
            self.assertEqual(poly(PRODUCT, f, row(0)), [0, 1, 1, 0, 1])
            self.assertEqual(poly(PRODUCT, row(*[0] * 9), f), [0, 1, 1, 0, 1])

    def test_9_places(self):
        self.assertEqual(poly(PRODUCT, row(*[1] * 5), row(*[1] * 5)), answered([1, 2, 3, 4, 5, 4, 3, 2, 1]))
        self.assertEqual(poly(PRODUCT, row(*[1] * 9), row(2)), answered([2] * 9))
        self.assertEqual(poly(PRODUCT, row(2), row(*[1] * 9)), answered([2] * 9))
        self.assertEqual(poly(PRODUCT, row(*[0] * 7, 1), row(0, 3)), answered([0] * 8 + [3]))

    def test_more_than_9_places(self):
        for places in range(1, 10):
            for others in range(1, 10):
                found = poly(PRODUCT, row(*[1] * places), row(*[0] * (others - 1), 1))
                if places + others - 1 > 9:
                    self.assertEqual(found, [-1])
                else:
                    self.assertEqual(found, answered([0] * (others - 1) + [1] * places))

    def test_coefficients_of_0_at_the_end(self):
        self.assertEqual(poly(PRODUCT, row(1, 2, *[0] * 7), row(3, 4, *[0] * 7)), answered([3, 10, 8]))
        self.assertEqual(poly(PRODUCT, row(5, *[0] * 8), row(*[1] * 9)), answered([5] * 9))
        self.assertEqual(poly(PRODUCT, row(*[1] * 5, *[0] * 4), row(*[1] * 5, *[0] * 4)),
                         answered([1, 2, 3, 4, 5, 4, 3, 2, 1]))
        self.assertEqual(poly(PRODUCT, row(*[1] * 5, *[0] * 4), row(*[1] * 6, *[0] * 3)), [-1])


class Divisions(unittest.TestCase):

    def check(self, f, g, quotient, rest):
        self.assertEqual(poly(QUOTIENT, f, g), answered(quotient))
        self.assertEqual(poly(REST, f, g), answered(rest))

    def test_degree_above(self):
        self.check(row(1, 2, 3), row(1, 1), [-1, 3], [2])
        self.check(row(1, 2, 3), row(1, -1), [-5, -3], [6])
        self.check(row(1, 0, 0, 1), row(1, 2), [Fraction(1, 8), Fraction(-1, 4), Fraction(1, 2)], [Fraction(7, 8)])
        self.check(row(*[1] * 9), row(0, 1), [1] * 8, [1])

    def test_quotient_with_coefficients_of_0(self):
        self.check(row(1, 0, 0, 0, 1), row(0, 0, 1), [0, 0, 1], [1])
        self.check(row(3, 1, 0, 0, 0, 2), row(1, 0, 0, 2), [0, 0, 1], [3, 1, -1])

    def test_quotients(self):
        self.check([1, 3, 2, 4, 1, 3, 6, 8], [1, 2, 1, 3, 1, 2], [Fraction(-1, 3), Fraction(3, 2)], [Fraction(11, 18)])

    def test_degree_equal(self):
        self.check(row(1, 2, 3), row(4, 5, 6), [Fraction(1, 2)], [-1, Fraction(-1, 2)])
        self.check(row(1, 2, 3), row(4, 5, -6), [Fraction(-1, 2)], [3, Fraction(9, 2)])

    def test_degree_below(self):
        self.check(row(1, 2), row(4, 5, 6), [0], [1, 2])
        self.check(row(7), row(0, 0, 0, 1), [0], [7])
        self.check([1, 2, 2, 4, 3, 9], row(1, 1, 1), [0], [Fraction(1, 2), Fraction(1, 3)])

    def test_rest_0(self):
        self.check(row(-1, 0, 0, 0, 1), row(1, 0, 1), [-1, 0, 1], [0])
        self.check(row(2, 4), row(1, 2), [2], [0])
        self.check(row(0, 0, 0, 5), row(0, 0, 2), [0, Fraction(5, 2)], [0])

    def test_degree_0(self):
        self.check(row(1, 2, 3), row(2), [Fraction(1, 2), 1, Fraction(3, 2)], [0])
        self.check(row(1, 2, 3), row(-2), [Fraction(-1, 2), -1, Fraction(-3, 2)], [0])
        self.check(row(1, 2, 3), row(-2, 0, 0), [Fraction(-1, 2), -1, Fraction(-3, 2)], [0])
        self.check(row(5), row(-3), [Fraction(-5, 3)], [0])

    def test_f_0(self):
        self.check(row(0), row(1, 2), [0], [0])
        self.check(row(0, 0, 0), row(5), [0], [0])

    def test_coefficients_of_0_at_the_end(self):
        self.check(row(1, 2, 3, 0, 0, 0), row(1, 1, 0, 0), [-1, 3], [2])
        self.check(row(1, 2, 0, 0), row(4, 5, 6), [0], [1, 2])
        self.check(row(1, 2), row(1, 1, 0, 0, 0), [2], [-1])

    def test_by_0(self):
        for f in (row(1, 2, 3), row(0), row(5), row(*[0] * 9)):
            for g in (row(0), row(0, 0), [1, 9] + [0, BOUND - 1] * 9):
                self.assertEqual(poly(QUOTIENT, f, g), [-4])
                self.assertEqual(poly(REST, f, g), [-4])
                self.assertEqual(poly(SUM, f, g)[0], 0)


class CommonDivisors(unittest.TestCase):

    def test_ordinary(self):
        # (z - 1)(z - 2) and (z - 2)(z - 3)
        self.assertEqual(poly(COMMON, row(2, -3, 1), row(6, -5, 1)), answered([-2, 1]))
        self.assertEqual(poly(COMMON, row(-1, 0, 0, 0, 1), row(-1, 0, 0, 0, 0, 0, 1)), answered([-1, 0, 1]))
        # 2 z - 1 over 3 and -4 z + 2
        self.assertEqual(poly(COMMON, [1, 2, -1, 3, 2, 3], row(2, -4)), [0, 1, 2, -1, 2, 1, 1])

    def test_several_times(self):
        # (z + 1)^3 z and (z + 1)^2 z^2
        self.assertEqual(poly(COMMON, row(0, 1, 3, 3, 1), row(0, 0, 1, 2, 1)), answered([0, 1, 2, 1]))

    def test_one_divides_the_other(self):
        self.assertEqual(poly(COMMON, row(-2, 0, 0, 0, 2), row(3, 0, 3)), answered([1, 0, 1]))
        self.assertEqual(poly(COMMON, row(3, 0, 3), row(-2, 0, 0, 0, 2)), answered([1, 0, 1]))
        self.assertEqual(poly(COMMON, row(3, 0, -3), row(3, 0, -3)), answered([-1, 0, 1]))

    def test_nothing_in_common(self):
        self.assertEqual(poly(COMMON, row(1, 0, 1), row(1, 1)), [0, 1, 1, 1, 1])
        self.assertEqual(poly(COMMON, row(5), row(-7)), [0, 1, 1, 1, 1])
        self.assertEqual(poly(COMMON, row(-5), row(1, 2, 3)), [0, 1, 1, 1, 1])
        self.assertEqual(poly(COMMON, row(1, 2, 3), [1, 1, -2, 6]), [0, 1, 1, 1, 1])

    def test_with_0(self):
        self.assertEqual(poly(COMMON, row(2, -4), row(0)), [0, 1, 2, -1, 2, 1, 1])
        self.assertEqual(poly(COMMON, row(0, 0, 0), row(2, -4)), [0, 1, 2, -1, 2, 1, 1])
        self.assertEqual(poly(COMMON, row(0), row(-7)), [0, 1, 1, 1, 1])
        self.assertEqual(poly(COMMON, row(-7), row(0, 0)), [0, 1, 1, 1, 1])

    def test_0_and_0(self):
        for f in (row(0), row(0, 0, 0), [1, 9] + [0, 5] * 9):
            for g in (row(0), [1, 2] + [0, 7] * 2):
                self.assertEqual(poly(COMMON, f, g), [0, 1, 1, 0, 1])

    def test_coefficients_of_0_at_the_end(self):
        self.assertEqual(poly(COMMON, row(2, -3, 1, 0, 0), row(6, -5, 1, 0)), answered([-2, 1]))


class Refusals(unittest.TestCase):

    def test_more_than_one_row(self):
        column = [2, 1, 1, 1, 2, 1]
        for op in range(-1, 7):
            for rows in (column, [2, 2] + [0, 1] * 4, [9, 9] + [1, 1] * 81, [9, 1] + [0, 1] * 9):
                # With g 0 too: what would be -4 is -1.
                for other in (row(1, 2), row(0), column):
                    self.assertEqual(poly(op, rows, other), [-1])
                    self.assertEqual(poly(op, other, rows), [-1])

    def test_op_out_of_range(self):
        for op in (-1, 6, 7, -6, FAR, -FAR):
            for g in (row(1, 2), row(0), row(0, 0, 0)):
                self.assertEqual(poly(op, row(1, 2, 3), g), [-1])
                self.assertEqual(poly(op, g, row(1, 2, 3)), [-1])

    def test_no_matrix_is_said_first(self):
        for op in (-1, 0, 2, 3, 4, 5, 6, FAR, -FAR):
            for numbers in ([], [1, 1, 1, 0], [1, 2, 1, 1], [2, 1, 1, 1], [1, 10] + [1, 1] * 10, [1, 1, BOUND, 1]):
                for other in (row(1, 2), row(0), [2, 1, 1, 1, 1, 1], row(*[1] * 9)):
                    self.assertEqual(poly(op, numbers, other), [-6])
                    self.assertEqual(poly(op, other, numbers), [-6])


class Reckoned(unittest.TestCase):

    def check(self, numbers, others):
        f, g = read(numbers)[0], read(others)[0]
        size = max(len(f), len(g))
        wide, other = f + [0] * (size - len(f)), g + [0] * (size - len(g))
        self.assertEqual(poly(SUM, numbers, others), answered([x + y for x, y in zip(wide, other)]))
        self.assertEqual(poly(DIFFERENCE, numbers, others), answered([x - y for x, y in zip(wide, other)]))
        product = trimmed(multiplied(f, g))
        self.assertEqual(poly(PRODUCT, numbers, others), [-1] if len(product) > 9 else answered(product))
        if any(g):
            quotient, rest = divided(f, g)
            self.assertEqual(poly(QUOTIENT, numbers, others), answered(quotient))
            self.assertEqual(poly(REST, numbers, others), answered(rest))
        else:
            self.assertEqual(poly(QUOTIENT, numbers, others), [-4])
            self.assertEqual(poly(REST, numbers, others), [-4])
        if any(f) or any(g):
            self.assertEqual(poly(COMMON, numbers, others), answered(common(f, g)))

    def test_small_polynomials(self):
        source = Source(70)
        for places in range(1, 10):
            for others in range(1, 10):
                for _ in range(4):
                    self.check(source.small(1, places), source.small(1, others))

    def test_with_something_in_common(self):
        source = Source(71)
        for _ in range(60):
            shared = read(source.small(1, source.draw.randrange(2, 5)))[0]
            f = multiplied(shared, read(source.small(1, source.draw.randrange(1, 6)))[0])
            g = multiplied(shared, read(source.small(1, source.draw.randrange(1, 6)))[0])
            self.check(told([f]), told([g]))

    def test_great_polynomials(self):
        source = Source(72)
        for places, others in ((9, 9), (9, 8), (9, 5), (9, 2), (9, 1), (5, 5), (5, 9), (1, 9), (1, 1)):
            self.check(source.great(1, places), source.great(1, others))

    def test_great_polynomials_with_something_in_common(self):
        source = Source(73)
        edge = 10 ** 19
        for _ in range(5):
            shared, left, right = [[source.draw.randrange(-edge, edge) for _ in range(5)] for _ in range(3)]
            f = multiplied(shared, left)
            g = multiplied(shared, right)
            self.check(told([f]), told([g]))
            self.assertEqual(poly(COMMON, told([f]), told([g]))[:3], [0, 1, 5])


if __name__ == "__main__":
    unittest.main()
