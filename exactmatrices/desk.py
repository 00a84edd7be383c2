"""The calls. Each takes whole numbers and lists of whole numbers and gives back a list of whole numbers:
a refusal alone, or 0 and behind it what is answered.
"""

from exactmatrices.characteristic import characteristic
from exactmatrices.circles import counts_by_circle
from exactmatrices.echelons import determinant, inverse, kernel, rank_of, reduced_echelon
from exactmatrices.forms import signs_of
from exactmatrices.matrices import above, added, beside, is_square, part_of, product, subtracted, turned
from exactmatrices.polynomials import common_of, multiplied, opposite, polynomial_from
from exactmatrices.polynomials import quotient_of, rest_of, row_of, sum_of
from exactmatrices.powers import raised, worth_at
from exactmatrices.reaching import reached
from exactmatrices.systems import has_free_columns, has_no_solution, solution, system_of, total_from, total_system
from exactmatrices.telling import GREATEST_SIDE, is_matrix, matrix_from, numbers_from

NO_MATRIX = -6
NOT_FIT = -1
NO_ANSWER = -4
NOT_ONE = -5

GREATEST_EXPONENT = 64
GREATEST_TOTAL = 4


def answer(matrix):
    return [0] + numbers_from(matrix)


def same_shape(a, b):
    return len(a) == len(b) and len(a[0]) == len(b[0])


def fits_two(op, a, b):
    """Whether op is one of two's and the shapes of a and b fit it."""
    if op == 0 or op == 1:
        return same_shape(a, b)
    if op == 2:
        return len(a[0]) == len(b)
    if op == 3:
        return len(a) == len(b) and len(a[0]) + len(b[0]) <= GREATEST_SIDE
    if op == 4:
        return len(a[0]) == len(b[0]) and len(a) + len(b) <= GREATEST_SIDE
    return False


def result_of_two(op, a, b):
    if op == 0:
        return added(a, b)
    if op == 1:
        return subtracted(a, b)
    if op == 2:
        return product(a, b)
    if op == 3:
        return beside(a, b)
    return above(a, b)


def two(op, a, b):
    """op 0: a + b; 1: a - b; 2: a b; 3: a beside b; 4: a above b."""
    if not is_matrix(a) or not is_matrix(b):
        return [NO_MATRIX]
    first = matrix_from(a)
    second = matrix_from(b)
    if not fits_two(op, first, second):
        return [NOT_FIT]
    return answer(result_of_two(op, first, second))


def fits_one(op, a):
    """Whether op is one of one's and the shape of a fits it."""
    if op == 4:
        # The polynomial has one place more than a has rows, and is itself to be a matrix.
        return is_square(a) and len(a) < GREATEST_SIDE
    if op == 3 or op == 5:
        return is_square(a)
    return 0 <= op <= 2


def result_of_one(op, a):
    """What op makes of a; None if there's no such thing."""
    if op == 0:
        return turned(a)
    if op == 1:
        return reduced_echelon(a)
    if op == 2:
        return kernel(a)
    if op == 3:
        return [[determinant(a)]]
    if op == 4:
        return [characteristic(a)]
    return inverse(a)


def one(op, a):
    """op 0: a turned about; 1: its reduced echelon; 2: its kernel; 3: its determinant;
    4: its characteristic polynomial; 5: its inverse.
    """
    if not is_matrix(a):
        return [NO_MATRIX]
    matrix = matrix_from(a)
    if not fits_one(op, matrix):
        return [NOT_FIT]
    result = result_of_one(op, matrix)
    if result is None:
        return [NO_ANSWER]
    return answer(result)


def lies_within(start, count, size):
    """Whether count places from start on are one place or more, none of them beyond size."""
    return start >= 0 and count >= 1 and start + count <= size


def part(row, rows, column, columns, a):
    """So many rows from row on, so many columns from column on, counted from 0."""
    if not is_matrix(a):
        return [NO_MATRIX]
    matrix = matrix_from(a)
    if not lies_within(row, rows, len(matrix)) or not lies_within(column, columns, len(matrix[0])):
        return [NOT_FIT]
    return answer(part_of(matrix, row, rows, column, columns))


def power(k, a):
    """a times itself, k times as a factor."""
    if not is_matrix(a):
        return [NO_MATRIX]
    matrix = matrix_from(a)
    if not is_square(matrix) or not 0 <= k <= GREATEST_EXPONENT:
        return [NOT_FIT]
    return answer(raised(matrix, k))


def refusal_of(system):
    """What equations are refused with; 0 if they have just one solution."""
    if has_no_solution(system):
        return NO_ANSWER
    if has_free_columns(system):
        return NOT_ONE
    return 0


def solve(a, b):
    """The one x with a x = b."""
    if not is_matrix(a) or not is_matrix(b):
        return [NO_MATRIX]
    first = matrix_from(a)
    second = matrix_from(b)
    if len(first) != len(second):
        return [NOT_FIT]
    system = system_of(first, second)
    refusal = refusal_of(system)
    if refusal != 0:
        return [refusal]
    return answer(solution(system))


def total(a, q):
    """The one x with x = a x a' + q."""
    if not is_matrix(a) or not is_matrix(q):
        return [NO_MATRIX]
    first = matrix_from(a)
    second = matrix_from(q)
    if not is_square(first) or not same_shape(first, second) or len(first) > GREATEST_TOTAL:
        return [NOT_FIT]
    system = total_system(first, second)
    refusal = refusal_of(system)
    if refusal != 0:
        return [refusal]
    return answer(total_from(system, len(first)))


def rank(a):
    """How many rows of the reduced echelon aren't 0."""
    if not is_matrix(a):
        return [NO_MATRIX]
    return [0, rank_of(matrix_from(a))]


def reach(a, b):
    """The rank of b, a b, a a b, ... beside each other, as many as a has rows."""
    if not is_matrix(a) or not is_matrix(b):
        return [NO_MATRIX]
    first = matrix_from(a)
    second = matrix_from(b)
    if not is_square(first) or len(first) != len(second):
        return [NOT_FIT]
    return [0, reached(first, second)]


def signs(a):
    """How many squares the form x' a x has with +, how many with -, how many are missing to as many as rows."""
    if not is_matrix(a):
        return [NO_MATRIX]
    matrix = matrix_from(a)
    if not is_square(matrix) or matrix != turned(matrix):
        return [NOT_FIT]
    return [0] + signs_of(matrix)


def result_of_poly(op, f, g):
    if op == 0:
        return sum_of(f, g)
    if op == 1:
        return sum_of(f, opposite(g))
    if op == 2:
        return multiplied(f, g)
    if op == 3:
        return quotient_of(f, g)
    if op == 4:
        return rest_of(f, g)
    return common_of(f, g)


def poly(op, f, g):
    """op 0: f + g; 1: f - g; 2: f g; 3: the quotient of f by g; 4: the rest; 5: the greatest common divisor."""
    if not is_matrix(f) or not is_matrix(g):
        return [NO_MATRIX]
    first = matrix_from(f)
    second = matrix_from(g)
    if len(first) > 1 or len(second) > 1 or not 0 <= op <= 5:
        return [NOT_FIT]
    x = polynomial_from(first[0])
    y = polynomial_from(second[0])
    if (op == 3 or op == 4) and y.whole == []:
        return [NO_ANSWER]
    result = row_of(result_of_poly(op, x, y))
    # Only a product can be as long as that.
    if len(result) > GREATEST_SIDE:
        return [NOT_FIT]
    return answer([result])


def at(f, a):
    """f's worth at the matrix a."""
    if not is_matrix(f) or not is_matrix(a):
        return [NO_MATRIX]
    row = matrix_from(f)
    matrix = matrix_from(a)
    if len(row) > 1 or not is_square(matrix):
        return [NOT_FIT]
    return answer(worth_at(polynomial_from(row[0]), matrix))


def circle(f):
    """How many roots of f lie within the unit circle, on it, beyond it, each as often as it's one."""
    if not is_matrix(f):
        return [NO_MATRIX]
    row = matrix_from(f)
    if len(row) > 1:
        return [NOT_FIT]
    x = polynomial_from(row[0])
    if x.whole == []:
        return [NO_ANSWER]
    return [0] + counts_by_circle(x.whole)
