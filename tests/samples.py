"""Polynomials to test with, and the reckoning of the document told once more in the plainest way."""

from fractions import Fraction
from functools import reduce
from itertools import product
from math import gcd, lcm

BIG = 10 ** 41 + 7
HUNDRED = [(-1) ** power * (power + 1) for power in range(100)]

# What is no whole number, though False equals 0 and 1.0 equals 1.
NO_NUMBERS = (True, False, None, "", "7", "x", [], [7], (), (7,), 1.0, b"7", {}, {7})


def small_rows(most_numbers, greatest):
    """Every polynomial of at most so many numbers, none farther from nought than the greatest."""
    rows = [[]]
    for length in range(1, most_numbers + 1):
        for numbers in product(range(-greatest, greatest + 1), repeat=length):
            if numbers[-1] != 0:
                rows.append(list(numbers))
    return rows


def dense_row(length, step):
    """So many numbers of forty figures and more, each unlike the others, of both signs."""
    return [(BIG + step * (power + 3) ** 5) * (-1) ** (power * power * step // 2) for power in range(length)]


SMALL = small_rows(3, 2)
TINY = small_rows(3, 1)
SPECIAL = [[BIG], [-BIG], [BIG, 0, -BIG], [0, 0, 0, 5], [-6, 0, 9, 0, -12], [3 * BIG, -2 * BIG], HUNDRED]
ROWS = SMALL + SPECIAL


def number_at(row, power):
    return row[power] if power < len(row) else 0


def trimmed(numbers):
    while numbers and numbers[-1] == 0:
        numbers = numbers[:-1]
    return list(numbers)


def told_sum(ones, others):
    return trimmed([number_at(ones, k) + number_at(others, k) for k in range(len(ones) + len(others))])


def told_product(ones, others):
    """The number of each power, gathered from all pairs of places that add up to it."""
    length = len(ones) + len(others)
    return trimmed([sum(number_at(ones, j) * number_at(others, k - j) for j in range(k + 1)) for k in range(length)])


def told_value(row, place):
    return sum(number * place ** power for power, number in enumerate(row))


def told_raised(row, many):
    return reduce(told_product, [row] * many, [1])


def told_division(row, by):
    """Quotient and rest in fractions: the rest of a lower power than the other one, which is not nought."""
    rest = trimmed([Fraction(number) for number in row])
    found = [Fraction(0)] * max(0, len(rest) - len(by) + 1)
    while len(rest) >= len(by):
        power = len(rest) - len(by)
        found[power] = rest[-1] / by[-1]
        rest = told_sum(rest, told_product([0] * power + [-found[power]], by))
    return found, rest


def told_simple(numbers):
    """Whole numbers or fractions made simple: no common divisor, the last one above nought."""
    if not numbers:
        return []
    whole = [int(number * lcm(*[Fraction(each).denominator for each in numbers])) for number in numbers]
    by = gcd(*whole) if whole[-1] > 0 else -gcd(*whole)
    return [number // by for number in whole]


def told_common(ones, others):
    """The greatest simple polynomial that divides both, by rests in fractions."""
    while others:
        ones, others = others, told_simple(told_division(ones, others)[1])
    return told_simple(ones)
