"""Every call of the program, as functions of the lists alone: with numbers that are taken and with ones that are not."""

from exactmatrices.desk import at, circle, one, part, poly, power, rank, reach, signs, solve, total, two

FAR = 2 ** 64


def one_at(op):
    return lambda a: one(op, a)


def two_at(op):
    return lambda a, b: two(op, a, b)


def poly_at(op):
    return lambda f, g: poly(op, f, g)


def part_at(*place):
    return lambda a: part(*place, a)


def power_at(k):
    return lambda a: power(k, a)


OF_ONE_LIST = (
    [one_at(op) for op in (-FAR, -1, 0, 1, 2, 3, 4, 5, 6, FAR)]
    + [part_at(*place) for place in ((0, 1, 0, 1), (1, 1, 0, 2), (-1, 1, 0, 1), (0, 1, 0, 0), (0, FAR, 0, FAR))]
    + [power_at(k) for k in (-FAR, -1, 0, 1, 2, 7, 65, FAR)]
    + [rank, signs, circle]
)
OF_TWO_LISTS = (
    [two_at(op) for op in (-FAR, -1, 0, 1, 2, 3, 4, 5, FAR)]
    + [solve, total, reach, at]
    + [poly_at(op) for op in (-FAR, -1, 0, 1, 2, 3, 4, 5, 6, FAR)]
)


def all_calls(a, b):
    return [call(a) for call in OF_ONE_LIST] + [call(a, b) for call in OF_TWO_LISTS]
