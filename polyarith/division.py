"""Division of polynomials: so many times the one is some polynomial times the other, and a rest."""

from math import gcd

from polyarith.errors import ByNought, NotWhole
from polyarith.rows import minus, plus, scaled


def divided(row, by):
    """The triple (m, q, r): m times the row is q times the other one and r, of a lower power; m is the least."""
    if not by:
        raise ByNought("a division by nought")
    many, found, rest = 1, [], list(row)
    while len(rest) >= len(by):
        # So many more times as make a whole number of this step's one, and no more. What makes whole numbers of the
        # earlier ones is just what their least m divides, so this one's m is the least again.
        more = abs(by[-1]) // gcd(by[-1], rest[-1])
        number = more * rest[-1] // by[-1]
        noughts = [0] * (len(rest) - len(by))
        many = many * more
        found = plus(scaled(found, more), noughts + [number])
        rest = minus(scaled(rest, more), noughts + scaled(by, number))
    return many, found, rest


def quotient(row, by):
    """The polynomial that comes to the row when it is taken times the other one."""
    many, found, rest = divided(row, by)
    if many != 1 or rest:
        raise NotWhole("no polynomial of whole numbers is the quotient")
    return found
