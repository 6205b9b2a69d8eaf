"""Polynomials as rows of whole numbers: the number of the power 0 stands first.

The last number of a row is not nought, and nought is the empty row. Every row that is answered is a new list.
"""

from polyarith.errors import NoNumber, NoPower


def _is_whole(thing):
    # In Python True and False are integers; here they are no numbers.
    return isinstance(thing, int) and not isinstance(thing, bool)


def _without_end_noughts(numbers):
    end = len(numbers)
    while end > 0 and numbers[end - 1] == 0:
        end -= 1
    return list(numbers[:end])


def made(numbers):
    """The polynomial of a list or a tuple of whole numbers."""
    # All are looked at before any is left out: False equals 0 and would go unseen with the noughts.
    for place, number in enumerate(numbers):
        if not _is_whole(number):
            raise NoNumber(f"no whole number at place {place}")
    return _without_end_noughts(numbers)


def _number_at(row, power):
    return row[power] if power < len(row) else 0


def plus(ones, others):
    """The sum of two polynomials."""
    powers = range(max(len(ones), len(others)))
    return _without_end_noughts([_number_at(ones, power) + _number_at(others, power) for power in powers])


def minus(ones, others):
    """The difference of two polynomials."""
    powers = range(max(len(ones), len(others)))
    return _without_end_noughts([_number_at(ones, power) - _number_at(others, power) for power in powers])


def times(ones, others):
    """The product of two polynomials."""
    if not ones or not others:
        return []
    totals = [0] * (len(ones) + len(others) - 1)
    for low, one in enumerate(ones):
        for high, other in enumerate(others):
            totals[low + high] += one * other
    return totals


def scaled(row, many):
    """So many times a polynomial."""
    return _without_end_noughts([many * number for number in row])


def raised(row, many):
    """The product of so many polynomials like this one; [1] of none."""
    if many < 0:
        # The count stays out of the message: one of thousands of figures cannot be turned into a text.
        raise NoPower("a count below nought")
    answer = [1]
    square = row
    left = many
    # By squaring, as the count of a number alone may be great.
    while left > 0:
        if left & 1:
            answer = times(answer, square)
        left = left >> 1
        if left > 0:
            square = times(square, square)
    return answer


def value(row, place):
    """What a polynomial comes to where its letter stands for a whole number."""
    total = 0
    for number in reversed(row):
        total = total * place + number
    return total


def slope(row):
    """Each number times its power, at the power one lower."""
    return [power * number for power, number in enumerate(row)][1:]


def put_in(row, other):
    """The polynomial that comes when the other one stands in the place of the letter."""
    answer = []
    for number in reversed(row):
        answer = plus(times(answer, other), _without_end_noughts([number]))
    return answer
