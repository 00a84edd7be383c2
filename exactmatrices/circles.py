"""How many roots of a polynomial lie within the unit circle, on it, beyond it, without seeking any root.

With z = (1 + w) / (1 - w), what lies within the circle becomes what lies left of the upright axis, w = i y for real y;
what lies on the circle comes to lie on the axis, but for z = -1, for which there's no w, so that the degree falls.
Along the axis a polynomial in w is A(y) + i B(y). While y runs from end to end, its direction turns by half a turn
for each root to the left, and by half a turn back for each to the right. The turns are counted where the quotient of
A and B goes through its poles, and Sturm's chain of A and B tells that. The chain ends with what A and B have in
common: its real roots are those on the axis; its others lie in pairs, one to the left and one to the right.
"""

from exactmatrices.polynomials import divided, trimmed, whole_multiplied, whole_sum, without_content
from exactmatrices.wholes import grown_row


def in_half_plane(f):
    """The polynomial f of z as one of w, times (1 - w) as often as f's degree."""
    result = []
    factor = [1]
    for x in reversed(f):
        result = whole_sum(whole_multiplied(result, [1, 1]), grown_row(factor, x))
        factor = whole_multiplied(factor, [1, -1])
    return result


def along_axis(f, start):
    """A for start 0, B for start 1: what the powers start, start + 2, ... of f make for w = i y, without the i of B."""
    result = []
    for k, x in enumerate(f):
        if k % 2 != start:
            result.append(0)
        elif k % 4 == start:
            result.append(x)
        else:
            result.append(-x)
    return trimmed(result)


def chain(p, q):
    """Sturm's chain of two polynomials: each one is the rest of the two ahead of it, with the other sign."""
    result = [p]
    while q != []:
        result.append(q)
        rest = without_content(divided(p, q).rest)
        p = q
        q = grown_row(rest, -1)
    return result


def changes(found):
    """How often a truth is followed by the other one."""
    return len([k for k in range(1, len(found)) if found[k] != found[k - 1]])


def poles(links):
    """Of q by p, with the chain of p and q and q's degree below p's: how many of its poles for real y go from below 0
    to above, less how many go from above to below.
    """
    at_end = [p[-1] > 0 for p in links]
    at_beginning = [(p[-1] > 0) == (len(p) % 2 == 1) for p in links]
    return changes(at_beginning) - changes(at_end)


def derived(p):
    return [k * x for k, x in enumerate(p)][1:]


def real_roots(p):
    """How many real roots p has, each as often as it's one."""
    count = 0
    while len(p) > 1:
        links = chain(p, derived(p))
        count += poles(links)
        # What p and its derivative have in common has each root once less.
        p = links[-1]
    return count


def counts_by_circle(f):
    """How many roots of a whole polynomial, which isn't 0, lie within the unit circle, on it, beyond it."""
    degree = len(f) - 1
    moved = in_half_plane(f)
    fallen = len(f) - len(moved)
    if len(moved) % 2 == 1:
        links = chain(along_axis(moved, 0), along_axis(moved, 1))
        # While the direction turns forth, the quotient B by A goes from above 0 to below at its poles.
        difference = -poles(links)
    else:
        links = chain(along_axis(moved, 1), along_axis(moved, 0))
        difference = poles(links)
    on = fallen + real_roots(links[-1])
    within = (degree - on + difference) // 2
    return [within, on, degree - on - within]
