"""Whether a linear recursion, x = a x again and again, settles down to 0: three ways to ask, and its run."""

import unittest
from fractions import Fraction

from exactmatrices.desk import at, circle, one, power, reach, signs, total, two
from reckoning import Source, identity, read, told


def by_roots(a):
    """All roots of the characteristic polynomial lie within the unit circle."""
    return circle(one(4, a)[1:]) == [0, a[0], 0, 0]


def by_total(a):
    """What the run adds up to, beginning with 1, is a sum of as many squares as there are rows."""
    found = total(a, told(identity(a[0])))
    return found[0] == 0 and signs(found[1:]) == [0, a[0], 0, 0]


def by_form(a):
    """Schur's and Cohn's form of the characteristic polynomial is a sum of as many squares as there are rows."""
    size = a[0]
    shift = told([[int(i == j + 1) for j in range(size)] for i in range(size)])
    row = one(4, a)[1:]
    forth = at(row, shift)[1:]
    back = at(told([read(row)[0][::-1]]), shift)[1:]
    squares = [two(2, part, one(0, part)[1:])[1:] for part in (back, forth)]
    return signs(two(1, *squares)[1:]) == [0, size, 0, 0]


def by_run(a):
    """The run's matrix after 64 steps, and after 64 times as many, in numbers that are rounded."""
    rows = [[float(x) for x in row] for row in read(power(64, a)[1:])]
    for _ in range(6):
        if max(abs(x) for row in rows for x in row) > 1e30:
            return False
        rows = [[sum(x * y for x, y in zip(row, column)) for column in zip(*rows)] for row in rows]
    return max(abs(x) for row in rows for x in row) < 1e-3


class Settling(unittest.TestCase):

    def check(self, a, expected=None):
        found = (by_roots(a), by_total(a), by_form(a), by_run(a))
        self.assertIn(found, ((True,) * 4, (False,) * 4), a)
        if expected is not None:
            self.assertEqual(found[0], expected, a)
        return found[0]

    def test_one_row(self):
        for top in range(-5, 6):
            for bottom in range(1, 6):
                self.check([1, 1, top, bottom], abs(top) < bottom)

    def test_turns(self):
        # A turn, times a factor below 1, of 1, above 1.
        for factor in (Fraction(1, 2), Fraction(9, 10), Fraction(1), Fraction(11, 10), Fraction(3)):
            for c, s in ((0, 1), (Fraction(3, 5), Fraction(4, 5)), (Fraction(-5, 13), Fraction(12, 13))):
                self.check(told([[factor * c, -factor * s], [factor * s, factor * c]]), factor < 1)

    def test_far_away_before_it_settles(self):
        for factor, settles in ((Fraction(1, 2), True), (Fraction(-4, 5), True), (Fraction(1), False), (-1, False)):
            rows = [[factor if i == j else 100 * int(j == i + 1) for j in range(4)] for i in range(4)]
            self.check(told(rows), settles)

    def test_nothing_is_left_at_last(self):
        self.check(told([[0, 5, 7, 1], [0, 0, 9, 2], [0, 0, 0, 3], [0, 0, 0, 0]]), True)
        self.check([4, 4] + [0, 1] * 16, True)

    def test_two_factors_with_the_product_1(self):
        self.check([2, 2, 2, 1, 0, 1, 0, 1, 1, 2], False)
        self.check([2, 2, 2, 1, 5, 1, 0, 1, -1, 2], False)

    def test_recursions(self):
        # Each number from the ones before it: the first row holds the factors.
        for factors, settles in (
            ((1, 1), False), ((Fraction(1, 2), Fraction(1, 3)), True), ((Fraction(1, 2), Fraction(1, 2)), False),
            ((1, Fraction(-1, 2)), True), ((0, 0, 0, Fraction(1, 2)), True), ((0, 0, 0, -1), False),
            ((1, 1, 1, -1), False), ((Fraction(1, 4),) * 4, False), ((Fraction(1, 5),) * 4, True),
            ((2, Fraction(-5, 4), Fraction(1, 4)), False), ((Fraction(3, 2), Fraction(-3, 4), Fraction(1, 8)), True),
        ):
            size = len(factors)
            rows = [list(factors)] + [[int(i == j + 1) for j in range(size)] for i in range(1, size)]
            self.check(told(rows), settles)

    def test_drawn_matrices(self):
        source = Source(95)
        for size in range(1, 5):
            seen = set()
            for _ in range(40):
                bottom = source.draw.choice((2, 3, 4, 5, 8))
                numbers = [size, size]
                for _ in range(size * size):
                    numbers += [source.draw.randrange(-3, 4), bottom]
                seen.add(self.check(numbers))
            self.assertEqual(seen, {True, False})

    def test_what_is_reached_from_one_column_is_enough_for_the_total(self):
        # q = b b' is a sum of one square alone; but where all is reached from b, the total has all of them.
        source = Source(96)
        for _ in range(30):
            a = [3, 3]
            for _ in range(9):
                a += [source.draw.randrange(-3, 4), 5]
            b = [3, 1]
            for _ in range(3):
                b += [source.draw.randrange(-2, 3), 1]
            found = total(a, two(2, b, one(0, b)[1:])[1:])
            if reach(a, b) == [0, 3]:
                self.assertEqual(found[0] == 0 and signs(found[1:]) == [0, 3, 0, 0], by_run(a))
            elif by_run(a):
                self.assertEqual(signs(found[1:]), [0, reach(a, b)[1], 0, 3 - reach(a, b)[1]])


if __name__ == "__main__":
    unittest.main()
