"""Polynomials.

A whole polynomial is a list of whole coefficients, that of power 0 first, the last one not 0; [] is the polynomial 0.
"""

from exactmatrices.quotients import divided_row, scale_of, whole_row
from exactmatrices.wholes import grown_row, row_divisor, shrunk_row


class Polynomial:

    def __init__(self, whole, scale):
        """A polynomial of quotients: the whole polynomial by scale, which isn't 0."""
        self.whole = whole
        self.scale = scale


class Division:

    def __init__(self, quotient, rest, scale):
        """Of whole polynomials f and g: scale f = quotient g + rest, the scale above 0, the rest's degree below g's."""
        self.quotient = quotient
        self.rest = rest
        self.scale = scale


def trimmed(whole):
    """The coefficients without those of 0 at their end."""
    size = len(whole)
    while size > 0 and whole[size - 1] == 0:
        size -= 1
    return whole[:size]


def coefficient(whole, k):
    return whole[k] if k < len(whole) else 0


def whole_sum(f, g):
    return trimmed([coefficient(f, k) + coefficient(g, k) for k in range(max(len(f), len(g)))])


def whole_multiplied(f, g):
    result = []
    for k, x in enumerate(f):
        result = whole_sum(result, [0] * k + grown_row(g, x))
    return result


def divided(f, g):
    """The division of whole polynomials, g not 0."""
    lead = abs(g[-1])
    quotient = []
    rest = f
    scale = 1
    for shift in range(len(f) - len(g), -1, -1):
        head = coefficient(rest, shift + len(g) - 1)
        if g[-1] < 0:
            head = -head
        rest = whole_sum(grown_row(rest, lead), [0] * shift + grown_row(g, -head))
        quotient = [head] + grown_row(quotient, lead)
        scale = scale * lead
    return Division(quotient, rest, scale)


def without_content(whole):
    """The whole polynomial by the greatest common divisor of its coefficients."""
    return shrunk_row(whole, row_divisor(whole, 0))


def polynomial_from(row):
    """The polynomial whose coefficients are a row of quotients."""
    scale = scale_of(row)
    return Polynomial(trimmed(whole_row(row, scale)), scale)


def row_of(f):
    """The coefficients as a row of quotients, of one place for the polynomial 0."""
    if f.whole == []:
        return [(0, 1)]
    return divided_row(f.whole, f.scale)


def sum_of(f, g):
    whole = whole_sum(grown_row(f.whole, g.scale), grown_row(g.whole, f.scale))
    return Polynomial(whole, f.scale * g.scale)


def opposite(f):
    return Polynomial(f.whole, -f.scale)


def multiplied(f, g):
    return Polynomial(whole_multiplied(f.whole, g.whole), f.scale * g.scale)


def quotient_of(f, g):
    """The quotient of f by g, which isn't 0."""
    done = divided(f.whole, g.whole)
    return Polynomial(grown_row(done.quotient, g.scale), done.scale * f.scale)


def rest_of(f, g):
    """The rest of f by g, which isn't 0."""
    done = divided(f.whole, g.whole)
    return Polynomial(done.rest, done.scale * f.scale)


def common_of(f, g):
    """The greatest common divisor, its leading coefficient 1; 0 of 0 and 0."""
    found = f.whole
    other = g.whole
    while other != []:
        rest = without_content(divided(found, other).rest)
        found = other
        other = rest
    if found == []:
        return Polynomial([], 1)
    return Polynomial(found, found[-1])
