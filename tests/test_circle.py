import cmath
import itertools
import math
import unittest
from fractions import Fraction

from exactmatrices.desk import circle
from reckoning import BOUND, Source, read, told

# Polynomials with how many of their roots lie within the circle, on it, beyond it.
KNOWN = (
    ((0, 1), (1, 0, 0)),
    ((-1, 2), (1, 0, 0)),
    ((2, 3), (1, 0, 0)),
    ((-1, 1), (0, 1, 0)),
    ((1, 1), (0, 1, 0)),
    ((-2, 1), (0, 0, 1)),
    ((3, 2), (0, 0, 1)),
    ((1, 0, 1), (0, 2, 0)),
    ((1, 1, 1), (0, 2, 0)),
    ((5, -6, 5), (0, 2, 0)),
    ((1, 1, 2), (2, 0, 0)),
    ((2, 1, 1), (0, 0, 2)),
    ((1, 0, 4), (2, 0, 0)),
    ((4, 0, 1), (0, 0, 2)),
    ((-1, -1, 1), (1, 0, 1)),
    ((1, -3, 1), (1, 0, 1)),
    ((-1, 0, 2), (2, 0, 0)),
    ((-2, 0, 1), (0, 0, 2)),
)
# Each of these can't be divided, and is the same read from its end, though not all its roots lie on the circle.
SALEM = (
    ((1, -1, -1, -1, 1), (1, 2, 1)),
    ((1, 0, -1, -1, -1, 0, 1), (1, 4, 1)),
    ((1, 0, 0, -1, -1, -1, 0, 0, 1), (1, 6, 1)),
)


def row(*coefficients):
    """The list of a polynomial, that of power 0 first."""
    return told([coefficients])


def multiplied(f, g):
    result = [0] * (len(f) + len(g) - 1)
    for i, x in enumerate(f):
        for j, y in enumerate(g):
            result[i + j] += x * y
    return result


def together(*known):
    """The product of known polynomials, and its counts."""
    f = [1]
    counts = (0, 0, 0)
    for factor, share in known:
        f = multiplied(f, factor)
        counts = tuple(x + y for x, y in zip(counts, share))
    return f, list(counts)


class Counts(unittest.TestCase):

    def check(self, f, counts):
        f = list(f)
        answer = [0] + list(counts)
        self.assertEqual(circle(row(*f)), answer, f)
        self.assertEqual(circle(row(*[-x for x in f])), answer, f)
        self.assertEqual(circle(row(*[Fraction(3 * x, 7) for x in f])), answer, f)
        for zeros in range(1, 10 - len(f)):
            self.assertEqual(circle(row(*f, *[0] * zeros)), answer, f)
            self.assertEqual(circle(row(*[0] * zeros, *f)), [0, counts[0] + zeros, counts[1], counts[2]], f)
        # Read from its end, a polynomial has the roots turned about in the circle, but for those at 0.
        if f[0]:
            self.assertEqual(circle(row(*reversed(f))), [0, counts[2], counts[1], counts[0]], f)
        # With z for -z.
        self.assertEqual(circle(row(*[x * (-1) ** k for k, x in enumerate(f)])), answer, f)

    def test_degree_0(self):
        for f in ((1,), (-5,), (Fraction(2, 3),)):
            self.check(f, (0, 0, 0))
        for f in (BOUND - 1, 1 - BOUND, Fraction(1, BOUND - 1)):
            self.assertEqual(circle(row(f)), [0, 0, 0, 0])
        self.assertEqual(circle([1, 9, 3, 7] + [0, 5] * 8), [0, 0, 0, 0])

    def test_one_root(self):
        for top in range(-6, 7):
            for bottom in range(1, 7):
                counts = (abs(top) < bottom, abs(top) == bottom, abs(top) > bottom)
                self.check((-top, bottom), [int(x) for x in counts])

    def test_two_roots_that_are_not_real(self):
        for b in range(-7, 8):
            for c in range(1, 8):
                for a in range(1, 8):
                    if b * b < 4 * a * c:
                        counts = (2 * (c < a), 2 * (c == a), 2 * (c > a))
                        self.assertEqual(circle(row(c, b, a)), [0] + list(counts))

    def test_two_real_roots(self):
        for top, other in itertools.product(range(-4, 5), repeat=2):
            for bottom, below in itertools.product(range(1, 5), repeat=2):
                roots = (abs(Fraction(top, bottom)), abs(Fraction(other, below)))
                counts = [sum(x < 1 for x in roots), sum(x == 1 for x in roots), sum(x > 1 for x in roots)]
                self.assertEqual(circle(row(*multiplied((-top, bottom), (-other, below)))), [0] + counts)

    def test_known(self):
        for f, counts in KNOWN + SALEM:
            self.check(f, counts)

    def test_known_several_times(self):
        for known in KNOWN:
            for times in range(1, 8 // (len(known[0]) - 1) + 1):
                self.check(*together(*[known] * times))
        self.check(*together(SALEM[0], SALEM[0]))

    def test_roots_at_0_alone(self):
        for k in range(9):
            self.assertEqual(circle(row(*[0] * k, 5)), [0, k, 0, 0])

    def test_roots_of_1(self):
        for k in range(1, 9):
            self.check([-1] + [0] * (k - 1) + [1], (0, k, 0))
            self.check([1] + [0] * (k - 1) + [1], (0, k, 0))
            self.check([1] * (k + 1), (0, k, 0))
        self.check((1, -1, 0, 1, -1, 1, 0, -1, 1), (0, 8, 0))

    def test_all_roots_of_one_size(self):
        for k in range(1, 9):
            self.check([-1] + [0] * (k - 1) + [2], (k, 0, 0))
            self.check([-2] + [0] * (k - 1) + [1], (0, 0, k))

    def test_roots_with_their_own_turned_about(self):
        # 2 and 1/2, once and several times, also not as often the one as the other
        two, half = KNOWN[5], KNOWN[1]
        for many in range(5):
            for few in range(5):
                if many + few:
                    self.check(*together(*[two] * many, *[half] * few))
        # pairs that are not real
        pair, inner = ((2, 1, 1), (0, 0, 2)), ((1, 1, 2), (2, 0, 0))
        for many in range(1, 4):
            for few in range(1, 5 - many):
                self.check(*together(*[pair] * many, *[inner] * few))
        self.check(*together(two, half, pair, inner))
        self.check(*together(two, half, two, half, KNOWN[7], KNOWN[3], KNOWN[4]))

    def test_1_and_its_opposite_several_times(self):
        plus, minus = KNOWN[3], KNOWN[4]
        for many in range(5):
            for few in range(5):
                self.check(*together(*[plus] * many, *[minus] * few))

    def test_first_and_last_coefficient_of_one_size(self):
        # The roots' product has the size 1 though none of them lies on the circle.
        self.check((1, 0, 5, 1), (2, 0, 1))
        self.check(*together(KNOWN[1], ((2, 1, 1), (0, 0, 2)), ((-1, 3), (1, 0, 0)), ((3, 2), (0, 0, 1))))
        self.check(*together(((-3, 2), (0, 0, 1)), ((-2, 3), (1, 0, 0))))
        self.check(*together(((-3, 2), (0, 0, 1)), ((2, 3), (1, 0, 0))))
        self.check(*together(((-6, 1), (0, 0, 1)), ((1, 2), (1, 0, 0)), ((-1, 3), (1, 0, 0))))

    def test_all_pairs_and_triples_of_known_ones(self):
        for chosen in itertools.combinations_with_replacement(KNOWN, 2):
            self.check(*together(*chosen))
        for chosen in itertools.combinations_with_replacement(KNOWN, 3):
            f, counts = together(*chosen)
            self.assertEqual(circle(row(*f)), [0] + counts)

    def test_known_ones_up_to_degree_8(self):
        source = Source(90)
        for _ in range(1500):
            chosen = []
            degree = 0
            while degree < 8:
                known = source.draw.choice(KNOWN + SALEM)
                degree += len(known[0]) - 1
                if degree <= 8:
                    chosen.append(known)
            f, counts = together(*chosen)
            self.assertEqual(circle(row(*f)), [0] + counts, f)


class Close(unittest.TestCase):
    """Roots that lie as close to the circle as numbers can tell."""

    def test_one_root(self):
        edge = BOUND - 1
        self.assertEqual(circle(row(edge - 1, edge)), [0, 1, 0, 0])
        self.assertEqual(circle(row(edge, edge)), [0, 0, 1, 0])
        self.assertEqual(circle(row(edge, edge - 1)), [0, 0, 0, 1])

    def test_two_roots_that_are_not_real(self):
        edge = BOUND - 1
        for middle in (0, 1, -1, edge // 2, -edge):
            self.assertEqual(circle(row(edge - 1, middle, edge)), [0, 2, 0, 0])
            self.assertEqual(circle(row(edge, middle, edge)), [0, 0, 2, 0])
            self.assertEqual(circle(row(edge, middle, edge - 1)), [0, 0, 0, 2])

    def test_eight_roots(self):
        edge = BOUND - 1
        self.assertEqual(circle(row(edge - 1, *[0] * 7, edge)), [0, 8, 0, 0])
        self.assertEqual(circle(row(edge, *[0] * 7, edge)), [0, 0, 8, 0])
        self.assertEqual(circle(row(edge, *[0] * 7, edge - 1)), [0, 0, 0, 8])
        self.assertEqual(circle(row(1, *[0] * 7, edge)), [0, 8, 0, 0])
        self.assertEqual(circle(row(Fraction(1, edge), *[0] * 7, edge)), [0, 8, 0, 0])
        self.assertEqual(circle(row(edge, *[0] * 7, Fraction(-1, edge))), [0, 0, 0, 8])

    def test_close_together(self):
        near = 10 ** 9
        f, counts = together(((1 - near, near), (1, 0, 0)), ((-near, near - 1), (0, 0, 1)), ((-1, 1), (0, 1, 0)),
                             ((-1, 1), (0, 1, 0)), ((near, near + 1), (1, 0, 0)))
        self.assertEqual(circle(row(*f)), [0] + counts)


class Wound(unittest.TestCase):
    """As many roots lie within the circle as the polynomial's direction winds round along it."""

    def turns(self, f):
        """How often; None if a root lies too close to the circle to tell."""
        steps = 2048
        points = [cmath.exp(2j * cmath.pi * k / steps) for k in range(steps)]
        values = [sum(x * z ** k for k, x in enumerate(f)) for z in points]
        turned = 0.0
        for value, other in zip(values, values[1:] + values[:1]):
            if abs(value) < 1e-9 or abs(cmath.phase(other / value)) > 0.5:
                return None
            turned += cmath.phase(other / value)
        return round(turned / (2 * cmath.pi))

    def check(self, numbers):
        f = read(numbers)[0]
        while f and not f[-1]:
            f.pop()
        if not f:
            return None
        greatest = max(abs(x) for x in f)
        turns = self.turns([float(x / greatest) for x in f])
        if turns is not None:
            self.assertEqual(circle(numbers), [0, turns, 0, len(f) - 1 - turns], f)
        return turns

    def test_small(self):
        source = Source(91)
        told_of = [self.check(source.small(1, places)) for places in range(2, 10) for _ in range(8)]
        self.assertGreater(len([turns for turns in told_of if turns is not None]), 30)

    def test_great(self):
        source = Source(92)
        told_of = [self.check(source.great(1, places)) for places in (9, 9, 9, 9, 9, 9, 9, 9, 8, 7)]
        self.assertGreater(len([turns for turns in told_of if turns is not None]), 5)


class Great(unittest.TestCase):

    def test_great_factors(self):
        source = Source(93)
        edge = 10 ** 9
        for _ in range(20):
            known = []
            for _ in range(4):
                b, c, a = [source.draw.randrange(1, edge) for _ in range(3)]
                if b * b < 4 * a * c:
                    known.append(((c, b, a), (2 * (c < a), 2 * (c == a), 2 * (c > a))))
                else:
                    known.append(((b, a), (int(b < a), int(b == a), int(b > a))))
            f, counts = together(*known)
            self.assertLess(max(f), BOUND)
            self.assertEqual(circle(row(*f)), [0] + counts)
            scale = math.gcd(*f)
            self.assertEqual(circle(row(*[Fraction(x, scale * (edge + 7)) for x in f])), [0] + counts)

    def test_great_and_the_same_read_from_its_end(self):
        edge = BOUND - 1
        # The coefficient in the middle outweighs the others: no root on the circle, as many within as beyond.
        self.assertEqual(circle(row(1, 2, 3, 4, edge, 4, 3, 2, 1)), [0, 4, 0, 4])
        self.assertEqual(circle(row(1, -2, 3, Fraction(4, 7), -edge, Fraction(4, 7), 3, -2, 1)), [0, 4, 0, 4])
        # The coefficients at the ends outweigh the others: all roots on the circle.
        self.assertEqual(circle(row(edge, 2, 3, 4, 5, 4, 3, 2, edge)), [0, 0, 8, 0])


class Refusals(unittest.TestCase):

    def test_more_than_one_row(self):
        for rows, columns in ((2, 1), (2, 2), (9, 9), (9, 1), (3, 5)):
            self.assertEqual(circle([rows, columns] + [1, 1] * (rows * columns)), [-1])
            # All entries 0: what would be -4, were it a polynomial, is -1.
            self.assertEqual(circle([rows, columns] + [0, 1] * (rows * columns)), [-1])

    def test_0(self):
        for places in range(1, 10):
            self.assertEqual(circle([1, places] + [0, 3] * places), [-4])

    def test_no_matrix(self):
        for numbers in ([], [1], [1, 1], [1, 1, 1, 0], [1, 1, 0, 0], [2, 1, 0, 1], [1, 10] + [1, 1] * 10, [1, 1, BOUND, 1]):
            self.assertEqual(circle(numbers), [-6])


if __name__ == "__main__":
    unittest.main()
