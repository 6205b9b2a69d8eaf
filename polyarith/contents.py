"""What divides all numbers of a polynomial, and the polynomial without it."""

from math import gcd


def content(row):
    """The greatest whole number that divides all numbers of a polynomial; nought of nought."""
    found = 0
    for number in row:
        found = gcd(found, number)
    return found


def simple(row):
    """The polynomial by its content, with a last number above nought; nought of nought."""
    if not row:
        return []
    by = content(row)
    if row[-1] < 0:
        by = -by
    return [number // by for number in row]
