"""Polynomials as products of parts without squares."""

from polyarith.contents import signed_content
from polyarith.errors import NoParts, NoPower
from polyarith.meeting import meet
from polyarith.rows import minus, raised, slope, times


def parts(row):
    """The pair (c, rows): c times the product of the parts, each so many times as its row tells."""
    if not row:
        raise NoParts("nought has no parts")
    # Without what it has in common with its slope, the row is c times all parts, each once; what is left of the slope
    # is c times the sum, over the parts, of a part's count times its slope times the other parts. Less the slope of
    # the former, each count is one lower: the part whose count comes to nought divides the sum, and no other one.
    left, turned = meet(row, slope(row))[1:3]
    rows = []
    many = 0
    while len(left) > 1:
        many += 1
        part, left, turned = meet(left, minus(turned, slope(left)))[:3]
        if len(part) > 1:
            rows.append((part, many))
    return signed_content(row), rows


def no_square(row):
    """The triple (u, v, n): u times the row and v times its slope are n alone; None where there is a square."""
    if not row:
        return None
    told = meet(row, slope(row))
    if len(told[0]) > 1:
        return None
    left, right, many = told[3:]
    return left, right, many


def joined(number, pairs):
    """The product of a number and of polynomials, each so many times as its pair tells."""
    for _, many in pairs:
        if many < 0:
            raise NoPower("a count below nought")
    # Ahead of all products: where one of them is nought, the others are not worked out, however great their counts.
    if number == 0 or any(many > 0 and not part for part, many in pairs):
        return []
    answer = [number]
    for part, many in pairs:
        answer = times(answer, raised(part, many))
    return answer
