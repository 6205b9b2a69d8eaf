"""Points [13] and [14]: how polynomials are written, and read again."""

import re
import unittest
from itertools import product

from polyarith.errors import NotWritten
from polyarith.notes import read, shown
from tests.samples import BIG, HUNDRED, ROWS, dense_row, small_rows

SIXTY = int("123456789" * 6 + "987654")

# What is written for each of them, by hand.
WRITTEN = (
    ([], "0"),
    ([5, -1, 0, 3], "3x^3 - x + 5"),
    ([0, -1], "-x"),
    ([1], "1"), ([-1], "-1"), ([7], "7"), ([-7], "-7"), ([10], "10"), ([-100], "-100"), ([11], "11"),
    ([0, 1], "x"), ([0, 2], "2x"), ([0, -2], "-2x"), ([0, 10], "10x"), ([0, -11], "-11x"),
    ([0, 0, 1], "x^2"), ([0, 0, -1], "-x^2"), ([0, 0, 12], "12x^2"), ([0, 0, -3], "-3x^2"),
    ([1, 1], "x + 1"), ([-1, 1], "x - 1"), ([1, -1], "-x + 1"), ([-1, -1], "-x - 1"),
    ([1, 1, 1], "x^2 + x + 1"), ([-1, -1, -1], "-x^2 - x - 1"), ([1, 0, 1], "x^2 + 1"), ([0, 1, 1], "x^2 + x"),
    ([0, -1, 1], "x^2 - x"), ([2, 0, 0, -1, 0, 4], "4x^5 - x^3 + 2"), ([-20, 30, -1, 1], "x^3 - x^2 + 30x - 20"),
    ([0] * 10 + [1], "x^10"), ([0] * 19 + [-1], "-x^19"), ([0] * 20 + [20], "20x^20"),
    ([0] * 11 + [111], "111x^11"), ([0, 1] + [0] * 97 + [-1], "-x^99 + x"), ([-9] + [0] * 98 + [9], "9x^99 - 9"),
    ([SIXTY], str(SIXTY)), ([-SIXTY, SIXTY, -SIXTY], f"-{SIXTY}x^2 + {SIXTY}x - {SIXTY}"),
    ([10 ** 59], "1" + "0" * 59), ([10 ** 60 - 1, 10 ** 59], "1" + "0" * 59 + "x + " + "9" * 60),
)

TERM = "(?:(?:[2-9]|[1-9][0-9]+)?x(?:\\^(?:[1-9][0-9]|[2-9]))?|[1-9][0-9]*)"
LINE = re.compile(f"-?{TERM}(?: [+-] {TERM})*")


def is_written(line):
    """Whether a text is just what [13] tells of some polynomial, of powers to 99; told by another way."""
    if line == "0":
        return True
    if not LINE.fullmatch(line):
        return False
    powers = []
    for term in re.findall(TERM, line):
        _, letter, tail = term.partition("x")
        powers.append(int(tail[1:] or "1") if letter else 0)
    return powers == sorted(set(powers), reverse=True)


class Shown(unittest.TestCase):
    def test_what_is_written_by_hand(self):
        for row, line in WRITTEN:
            told = shown(row)
            self.assertEqual(told, line)
            self.assertIs(type(told), str)

    def test_1_and_below_nought_1_at_each_power(self):
        self.assertEqual([shown([1]), shown([-1]), shown([0, 1]), shown([0, -1])], ["1", "-1", "x", "-x"])
        for power in range(2, 100):
            self.assertEqual(shown([0] * power + [1]), f"x^{power}")
            self.assertEqual(shown([0] * power + [-1]), f"-x^{power}")
            self.assertEqual(shown([-1] + [0] * (power - 1) + [-1]), f"-x^{power} - 1")
            self.assertEqual(shown([0, 1] + [0] * (power - 2) + [5]), f"5x^{power} + x")

    def test_numbers_alone(self):
        for number in list(range(1, 130)) + [BIG, SIXTY, 10 ** 59]:
            self.assertEqual(shown([number]), f"{number}")
            self.assertEqual(shown([-number]), f"-{number}")

    def test_a_hundred_numbers(self):
        terms = [f"{power + 1}x^{power}" for power in range(99, 1, -1)] + ["2x", "1"]
        line = "-" + terms[0]
        for at, term in enumerate(terms[1:]):
            line += (" - " if at & 1 else " + ") + term
        self.assertEqual(shown(HUNDRED), line)
        self.assertEqual(shown([1] * 100), " + ".join([f"x^{power}" for power in range(99, 1, -1)] + ["x", "1"]))
        self.assertEqual(shown([SIXTY] * 100).count(str(SIXTY)), 100)

    def test_different_ones_are_written_differently(self):
        rows = small_rows(4, 2)
        self.assertEqual(len({shown(row) for row in rows}), len(rows))


class Read(unittest.TestCase):
    def test_what_is_written_by_hand(self):
        for row, line in WRITTEN:
            told = read(line)
            self.assertEqual(told, row)
            self.assertIs(type(told), list)
            self.assertTrue(all(type(number) is int for number in told))

    def test_all_that_is_shown_is_read_again(self):
        for row in ROWS + small_rows(4, 2) + [[SIXTY] * 100, [-SIXTY] * 100, dense_row(100, 1), [1] * 100, [-1] * 100]:
            self.assertEqual(read(shown(row)), row)
        for power in range(100):
            for number in (1, -1, 2, -10, 11, SIXTY):
                row = [0] * power + [number]
                self.assertEqual(read(shown(row)), row)
                self.assertEqual(read(shown([3] + row[1:])), [3] + row[1:])


class NotSo(unittest.TestCase):
    def refused(self, *lines):
        for line in lines:
            with self.assertRaises(NotWritten, msg=repr(line)):
                read(line)

    def test_the_empty_text_and_blanks(self):
        self.refused("", " ", "  ", "\n", "\t", " 0", "0 ", " x", "x ", " -x", "- x", "x  ", " 3x^3 - x + 5",
                     "3x^3 - x + 5 ", "3x^3  - x + 5", "3x^3 -  x + 5", "3x^3 -x + 5", "3x^3- x + 5", "3x^3-x+5",
                     "3x^3 - x +5", "3 x^3 - x + 5", "3x ^3 - x + 5", "3x^ 3 - x + 5", "x + 1  ", "  x + 1", "1 0")

    def test_noughts(self):
        self.refused("00", "-0", "+0", "05", "-05", "007", "0x", "-0x", "0x^2", "02x", "x + 0", "x - 0", "x + 05",
                     "x^2 + 0x", "x^2 + 0x + 1", "0 + 1", "0x + 1", "x^02", "x^002", "x^00", "x^2 + 03x", "0 + x", "0\n")

    def test_a_1_ahead_of_x(self):
        self.refused("1x", "-1x", "1x^2", "-1x^2", "x^2 + 1x", "x^2 - 1x + 1", "x^3 + 1x^2", "01x")

    def test_the_powers_0_and_1_and_above_99(self):
        self.refused("x^0", "x^1", "-x^1", "5x^1", "5x^0", "x^2 + x^1", "x + x^0", "x^01", "x^100", "3x^100", "-x^100",
                     "x^100 + 1", "x^101", "x^990", "x^999", "x^1000", "x^099", "x^0100", "x^100000000000000000000",
                     "x^" + "9" * 6000, "x^" + "0" * 6000 + "2")

    def test_powers_in_other_ways(self):
        self.refused("x^", "x^-2", "x^+2", "x^2^2", "x^x", "xx", "x2", "x^2x", "x^2 x", "^2", "x^^2", "x**2", "xx^2",
                     "3^2", "x^2.0", "x^2_0", "x^^", "x3^2", "x^3 2", "(x)", "x*2", "2*x")

    def test_the_same_power_twice(self):
        self.refused("x + x", "1 + 1", "x - x", "x^2 + x^2", "x^2 + x + x", "3x^2 - 2x^2 + 1", "x + 1 + 1", "5 - 4",
                     "x^99 + x^99")

    def test_powers_that_rise(self):
        self.refused("1 + x", "x + x^2", "1 + x + x^2", "x^2 + 1 + x", "x^2 + x^3 + 1", "5 - x", "x^9 + x^10", "1 + x^99")

    def test_signs_without_a_term_and_doubled(self):
        self.refused("-", "+", "--", "- ", "+ ", " -", "x +", "x -", "x + ", "x - ", "+ x", "- + x", "x + - 1", "x + -1",
                     "x - -1", "x -- 1", "x ++ 1", "x +- 1", "x + + 1", "--x", "-+x", "+-x", "+x", "+5", "+3x^2", "x - +1",
                     "x + 1 +", "x + 1 - ", "- - x", "x 1", "x^2 x 1", "x * 1", "x / 1", "x = 1", "x, 1", "x  1", "-x -")

    def test_line_ends_and_other_signs(self):
        self.refused("x\n", "\nx", "x\r\n", "5\n", "x^2\n", "x +\n1", "x\n+ 1", "x\t+ 1", "x +\t1", "x\u00a0+ 1", "x\0",
                     "X", "X^2", "y", "3y", "x^3 - y", "1,000", "1_000", "1.0", "1e5", "0x10", "a", "five", "#", "x;",
                     "\u2212x", "x \u2212 1", "x \u2013 1", "\ufeffx", "x\u00b2", "3\u00d7x", "\u0445", "\x1cx", "x\x85")

    def test_figures_that_are_not_0_to_9(self):
        for figure in ("\u0663", "\u0967", "\uff15", "\u00b2", "\u00b3", "\u2075", "\u00bd", "\u2460", "\u4e09",
                       "\U0001d7d9", "\u216b", "\u1369"):
            self.refused(figure, f"-{figure}", f"{figure}x", f"x^{figure}", f"1{figure}", f"{figure}1", f"x + {figure}",
                         f"2{figure}x", f"x^1{figure}", f"x^{figure}1", f"{figure}x^2 + 1")

    def test_all_short_texts(self):
        for length in range(6):
            for signs in product("x^ +-012", repeat=length):
                self.both_ways("".join(signs))

    def test_written_texts_with_one_sign_other(self):
        for line in ("3x^3 - x + 5", "-x^99 + 10x^12 - 4", "x^2 + x + 1", "-12x + 30", "-x", "x^10 - x^9", "0"):
            for at in range(len(line) + 1):
                self.both_ways(line[:at] + line[at + 1:])
                for sign in "x^ +-0129\n\tX.":
                    self.both_ways(line[:at] + sign + line[at:])
                    self.both_ways(line[:at] + sign + line[at + 1:])

    def both_ways(self, line):
        if is_written(line):
            self.assertEqual(shown(read(line)), line)
        else:
            self.refused(line)


if __name__ == "__main__":
    unittest.main()
