"""What divides all numbers of a polynomial, and the polynomial without it."""

from math import gcd


def content(row):
    """The greatest whole number that divides all numbers of a polynomial; nought of nought."""
    found = 0
    for number in row:
        found = gcd(found, number)
    return found


def signed_content(row):
    """The number that comes to the polynomial when it is taken times the simple one; nought of nought."""
    if row and row[-1] < 0:
        return -content(row)
    return content(row)


def lessened(row, by):
    """The numbers of a polynomial, each by a number that divides them all."""
    return [number // by for number in row]


def simple(row):
    """The polynomial by its content, with a last number above nought; nought of nought."""
    return lessened(row, signed_content(row))
