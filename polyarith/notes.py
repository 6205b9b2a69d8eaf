"""How polynomials are written, and the reading of what is written so."""

from polyarith.errors import NotWritten

GREATEST_POWER = 99
# A longer tail than that of the greatest power is refused unread, however many figures it has.
LONGEST_TAIL = 3


def _term(size, power):
    """A term without its sign."""
    if power == 0:
        return f"{size}"
    letter = "x" if power == 1 else f"x^{power}"
    return letter if size == 1 else f"{size}{letter}"


def _sign(number, is_first):
    """What stands ahead of a term."""
    if is_first:
        return "-" if number < 0 else ""
    return " - " if number < 0 else " + "


def shown(row):
    """How a polynomial is written: its terms from the greatest power down."""
    line = ""
    for power in reversed(range(len(row))):
        number = row[power]
        if number != 0:
            line += _sign(number, line == "") + _term(abs(number), power)
    return line or "0"


def _whole_number(figures):
    """The number of some figures, above nought, none of them a nought ahead."""
    # Some figures of other scripts are digits to Python, too.
    if not figures.isascii() or not figures.isdigit() or figures.startswith("0"):
        raise NotWritten("no figures of a number where they belong")
    return int(figures)


def _size_of(figures):
    """The number that is written ahead of an x."""
    if not figures:
        return 1
    if figures == "1":
        raise NotWritten("a 1 ahead of an x")
    return _whole_number(figures)


def _power_of(tail):
    """The power that is written behind an x."""
    if not tail:
        return 1
    if not tail.startswith("^") or len(tail) > LONGEST_TAIL:
        raise NotWritten("no power behind an x")
    power = _whole_number(tail[1:])
    if power == 1:
        raise NotWritten("the power 1 in figures")
    return power


def _size_and_power(term):
    """What a term without its sign tells."""
    figures, letter, tail = term.partition("x")
    if not letter:
        return _whole_number(figures), 0
    return _size_of(figures), _power_of(tail)


def _signs_and_terms(line):
    """The signs and the terms by turns, a sign ahead of the first term, too."""
    if line.startswith("-"):
        return ["-"] + line[1:].split(" ")
    return ["+"] + line.split(" ")


def read(line):
    """The polynomial that is written so."""
    if line == "0":
        return []
    words = _signs_and_terms(line)
    if len(words) & 1:
        raise NotWritten("signs and terms do not stand by turns")
    row = []
    lowest = GREATEST_POWER + 1
    for sign, term in zip(words[0::2], words[1::2]):
        size, power = _size_and_power(term)
        if sign not in ("+", "-") or power >= lowest:
            raise NotWritten("no sign between two terms, or powers that do not fall")
        lowest = power
        if not row:
            row = [0] * (power + 1)
        row[power] = -size if sign == "-" else size
    return row
