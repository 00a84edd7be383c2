"""Quotients of whole numbers.

A quotient is a pair (top, bottom) in lowest terms, the bottom above 0; so equal quotients are equal pairs.
"""


def common_divisor(m, n):
    """The greatest common divisor, not below 0."""
    m = abs(m)
    n = abs(n)
    while n != 0:
        rest = m % n
        m = n
        n = rest
    return m


def common_multiple(m, n):
    """The least common multiple of two whole numbers above 0."""
    return m // common_divisor(m, n) * n


def all_multiplied(numbers):
    """The product of whole numbers."""
    result = 1
    for number in numbers:
        result = result * number
    return result


def lowest(top, bottom):
    """The quotient of top by bottom, which isn't 0."""
    divisor = common_divisor(top, bottom)
    if bottom < 0:
        divisor = -divisor
    return (top // divisor, bottom // divisor)


def lowest_by_base(top, bottom, base):
    """The quotient of top by a bottom above 0, each prime factor of which divides base.

    As base is small beside a long product's bottom, this is far cheaper than to seek their common divisor outright.
    """
    if top == 0:
        return (0, 1)
    common = common_divisor(top, common_divisor(bottom, base))
    while common != 1:
        top = top // common
        bottom = bottom // common
        # What is still in common has no other prime factors than what was taken out last.
        common = common_divisor(top, common_divisor(bottom, common))
    return (top, bottom)


def plus(x, y):
    return lowest(x[0] * y[1] + y[0] * x[1], x[1] * y[1])


def minus(x, y):
    return lowest(x[0] * y[1] - y[0] * x[1], x[1] * y[1])


def times(x, y):
    return lowest(x[0] * y[0], x[1] * y[1])


def paired_sum(xs, ys):
    """The sum of the products of what stands at the same place."""
    # The sum is brought to lowest terms once, at its end: that's dearer than all the products together.
    top = 0
    bottom = 1
    for x, y in zip(xs, ys):
        below = x[1] * y[1]
        top = top * below + x[0] * y[0] * bottom
        bottom = bottom * below
    return lowest(top, bottom)


def scale_of(row):
    """The least whole number above 0 that makes every quotient of the row whole."""
    scale = 1
    for x in row:
        scale = common_multiple(scale, x[1])
    return scale


def scale_of_all(rows):
    """The least whole number above 0 that makes every quotient of the rows whole."""
    scale = 1
    for row in rows:
        scale = common_multiple(scale, scale_of(row))
    return scale


def whole_row(row, scale):
    """The row times scale, as whole numbers."""
    return [x[0] * (scale // x[1]) for x in row]


def divided_row(whole, divisor):
    """The quotients of a row of whole numbers by a divisor that isn't 0."""
    return [lowest(x, divisor) for x in whole]
