"""Quotients of whole numbers.

A quotient is a pair (top, bottom) in lowest terms, the bottom above 0; so equal quotients are equal pairs.
"""


def common_divisor(m, n):
    """The greatest common divisor, not below 0."""
    m = abs(m)
    n = abs(n)
    while n != 0:
        rest = m % n
        m = n
        n = rest
    return m


def common_multiple(m, n):
    """The least common multiple of two whole numbers above 0."""
    return m // common_divisor(m, n) * n


def all_multiplied(numbers):
    """The product of whole numbers."""
    result = 1
    for number in numbers:
        result = result * number
    return result


def lowest(top, bottom):
    """The quotient of top by bottom, which isn't 0."""
    divisor = common_divisor(top, bottom)
    if bottom < 0:
        divisor = -divisor
    return (top // divisor, bottom // divisor)


def plus(x, y):
    return lowest(x[0] * y[1] + y[0] * x[1], x[1] * y[1])


def minus(x, y):
    return lowest(x[0] * y[1] - y[0] * x[1], x[1] * y[1])


def paired_sum(xs, ys):
    """The sum of the products of what stands at the same place."""
    # The sum is brought to lowest terms once, at its end: that's dearer than all the products together.
    top = 0
    bottom = 1
    for x, y in zip(xs, ys):
        below = x[1] * y[1]
        top = top * below + x[0] * y[0] * bottom
        bottom = bottom * below
    return lowest(top, bottom)


def scale_of(row):
    """The least whole number above 0 that makes every quotient of the row whole."""
    scale = 1
    for x in row:
        scale = common_multiple(scale, x[1])
    return scale


def whole_row(row, scale):
    """The row times scale, as whole numbers."""
    return [x[0] * (scale // x[1]) for x in row]


def divided_row(whole, divisor):
    """The quotients of a row of whole numbers by a divisor that isn't 0."""
    return [lowest(x, divisor) for x in whole]
