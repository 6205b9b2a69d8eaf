"""What two polynomials have in common, and a paper for it.

A step is a tuple (row, u, v, n): the row is simple or nought, and u times the one and v times the other of the two
polynomials that meet come to n times the row.
"""

from math import gcd

from polyarith.contents import content, lessened, signed_content, simple
from polyarith.division import divided, quotient
from polyarith.errors import NoMeet
from polyarith.rows import minus, scaled, times


def _least_step(row, left, right, many):
    """The step of a row that need not be simple, with the least numbers and n not below nought."""
    many = many * signed_content(row)
    shared = gcd(many, content(left), content(right))
    if many < 0:
        shared = -shared
    return simple(row), lessened(left, shared), lessened(right, shared), many // shared


def _next_step(last, now):
    """The step of the rest that is left where the row of the one step is divided by that of the other."""
    row, left, right, many = last
    by, by_left, by_right, by_many = now
    row_many, found, rest = divided(row, by)
    ahead = row_many * by_many
    behind = scaled(found, many)
    next_left = minus(scaled(left, ahead), times(behind, by_left))
    next_right = minus(scaled(right, ahead), times(behind, by_right))
    return _least_step(rest, next_left, next_right, many * by_many)


def meet(ones, others):
    """The tuple (g, s, t, u, v, n): the greatest simple polynomial that divides both, and how it comes together."""
    if not ones and not others:
        raise NoMeet("two noughts do not meet")
    last = _least_step(ones, [1], [], 1)
    now = _least_step(others, [], [1], 1)
    while now[0]:
        last, now = now, _next_step(last, now)
    common, left, right, many = last
    return common, quotient(ones, common), quotient(others, common), left, right, many
