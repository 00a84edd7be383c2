"""Powers of square matrices."""

from exactmatrices.matrices import unit
from exactmatrices.scaled import factor_from, moved, quotients_from, scaled_from, squared


def raised(a, k):
    """a times itself, k times as a factor, k not below 0."""
    if k == 0:
        return unit(len(a))
    factor = factor_from(a)
    result = scaled_from(a)
    # Behind its first digit, each binary digit of k doubles the exponent, and a 1 adds one to it.
    for place in range(k.bit_length() - 2, -1, -1):
        result = squared(result)
        if (k >> place) % 2 == 1:
            result = moved(factor, result)
    return quotients_from(result)
