"""Powers of square matrices, and what polynomials are worth at them."""

from exactmatrices.matrices import unit
from exactmatrices.scaled import Scaled, factor_from, moved, quotients_from, scaled_from, squared
from exactmatrices.wholes import with_diagonal


def raised(a, k):
    """a times itself, k times as a factor, k not below 0."""
    if k == 0:
        return unit(len(a))
    factor = factor_from(a)
    result = scaled_from(a)
    # Behind its first digit, each binary digit of k doubles the exponent, and a 1 adds one to it.
    for place in range(k.bit_length() - 2, -1, -1):
        result = squared(result)
        if (k >> place) % 2 == 1:
            result = moved(factor, result)
    return quotients_from(result)


def worth_at(f, a):
    """The polynomial f's worth at the square matrix a."""
    factor = factor_from(a)
    base = factor.base
    result = Scaled([[0] * len(a) for row in a], 1, base)
    for x in reversed(f.whole):
        result = moved(factor, result)
        result = Scaled(with_diagonal(result.rows, x * result.bottom), result.bottom, base)
    return quotients_from(Scaled(result.rows, result.bottom * f.scale, base * f.scale))
