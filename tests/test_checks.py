"""What plain values are."""

import itertools
import math
import unittest
from fractions import Fraction

from tests.asking import STRANGE, Asking
from thincoins.checks import (
    are_integers, common_divisor, compared, first_twice, is_integer, is_lot, is_name, is_ratio, is_within, lowest,
)
from thincoins.errors import BadNumber, BadRatio

GREAT = 10 ** 300 + 7


class TestIntegers(Asking):
    def test_is_integer(self):
        for value in (0, 1, -1, GREAT, -GREAT):
            self.assertIs(is_integer(value), True)
        for value in STRANGE + ([], [1], (1,)):
            self.assertIs(is_integer(value), False)

    def test_is_within_at_its_ends(self):
        for value, wanted in ((1, False), (2, True), (3, True), (4, True), (5, False)):
            self.assertIs(is_within(value, 2, 4), wanted)
        self.assertIs(is_within(-3, -3, -3), True)
        self.assertIs(is_within(1, 2, 1), False)

    def test_is_within_without_a_bound(self):
        self.assertIs(is_within(GREAT, 0, None), True)
        self.assertIs(is_within(-1, 0, None), False)
        self.assertIs(is_within(-GREAT, None, 0), True)
        self.assertIs(is_within(1, None, 0), False)
        self.assertIs(is_within(GREAT, None, None), True)
        self.assertIs(is_within(value=5, least=5, most=5), True)

    def test_is_within_of_no_integer(self):
        for value in STRANGE + ([1],):
            self.assertIs(is_within(value, None, None), False)
            self.assertIs(is_within(value, 0, 1), False)

    def test_are_integers(self):
        for value in ([], (), [0], (1, -2), [GREAT]):
            self.assertIs(are_integers(value), True)
        for value in STRANGE + (1, [True], (1, None), [[1]], [1, 1.0], "12", {1: 2}):
            self.assertIs(are_integers(value), False)


class TestNames(Asking):
    def test_lengths(self):
        self.assertIs(is_name("a"), True)
        self.assertIs(is_name("abcdefghij12"), True)
        self.assertIs(is_name("abcdefghij123"), False)
        self.assertIs(is_name(""), False)

    def test_every_letter_and_digit(self):
        for char in "abcdefghijklmnopqrstuvwxyz":
            self.assertIs(is_name(char), True)
        for char in "0123456789":
            self.assertIs(is_name(char), False)
            self.assertIs(is_name("z" + char), True)

    def test_others(self):
        for value in ("A", "aB", "a b", " a", "a ", "a_", "a-", "a.", "\u00e9", "a\u00e9", "a\u0661", "a\n", "1a"):
            self.assertIs(is_name(value), False)
        for value in STRANGE + (["a"], ("a",), b"a"):
            self.assertIs(is_name(value), False)


class TestRatios(Asking):
    def test_is_ratio(self):
        for value in ((0, 1), [1, 2], (-3, 2), (5, 1), (GREAT, GREAT + 1)):
            self.assertIs(is_ratio(value), True)
        for value in ((0, 2), (2, 4), (1, 0), (0, 0), (1, -2), (-1, -2), (-2, 4), (1,), (1, 2, 3), (), 1, (True, 2)):
            self.assertIs(is_ratio(value), False)
        for value in STRANGE + ((1, True), (1.0, 2), ("1", 2), (None, 1), "12", Fraction(1, 2)):
            self.assertIs(is_ratio(value), False)

    def test_lowest(self):
        for number, by in itertools.product(range(-12, 13), range(-12, 13)):
            if by != 0:
                wanted = Fraction(number, by)
                self.exactly(lowest(number, by), (wanted.numerator, wanted.denominator))
        self.exactly(lowest(GREAT * 6, -GREAT * 4), (-3, 2))
        self.exactly(lowest(number=0, by=-7), (0, 1))

    def test_lowest_refuses(self):
        for value in STRANGE + ([1],):
            self.refused(BadNumber("number"), lowest, value, 0)
            self.refused(BadNumber("by"), lowest, 1, value)
        self.refused(BadNumber("by"), lowest, 1, 0)

    def test_compared(self):
        rows = sorted({Fraction(number, by) for number in range(-6, 7) for by in range(1, 7)})
        for one, other in itertools.product(rows, rows):
            wanted = (one > other) - (one < other)
            got = compared([one.numerator, one.denominator], (other.numerator, other.denominator))
            self.exactly(got, wanted)
        self.exactly(compared((GREAT, GREAT + 1), (GREAT - 1, GREAT)), 1)

    def test_compared_refuses_the_first_fault_first(self):
        for value in STRANGE + ((2, 4), [1], (1, 0), (1, True)):
            self.refused(BadRatio("one"), compared, value, value)
            self.refused(BadRatio("one"), compared, value, (1, 2))
            self.refused(BadRatio("other"), compared, (1, 2), value)


class TestLots(Asking):
    def test_is_lot(self):
        for value in ((), [], [0], (0, 1, 2), [0, 2], (2,)):
            self.assertIs(is_lot(value, 3), True)
        for value in ((1, 0), (1, 1), (0, 0), (-1, 0), (3,), (0, 3), (True,), (0, True), (0, 1.0), (None,), 0):
            self.assertIs(is_lot(value, 3), False)
        for value in STRANGE:
            self.assertIs(is_lot(value, 3), False)

    def test_is_lot_at_its_bound(self):
        self.assertIs(is_lot((), 0), True)
        self.assertIs(is_lot((0,), 0), False)
        self.assertIs(is_lot((0,), 1), True)
        self.assertIs(is_lot((GREAT,), GREAT), False)
        self.assertIs(is_lot((GREAT - 1,), GREAT), True)
        self.assertIs(is_lot((), -1), True)

    def test_first_twice(self):
        self.exactly(first_twice([2, 1, 1, 2]), 1)
        self.exactly(first_twice(("a", "b", "c", "b", "a")), "b")
        self.exactly(first_twice([GREAT, 0, GREAT]), GREAT)
        self.exactly(first_twice([0, 0]), 0)
        for values in ([], (), [1], [1, 2, 3], ["a", "A"]):
            self.assertIsNone(first_twice(values))

    def test_common_divisor(self):
        for values in itertools.product(range(-6, 7), repeat=3):
            self.exactly(common_divisor(values), math.gcd(*values))
        self.exactly(common_divisor([]), 0)
        self.exactly(common_divisor((0, 0)), 0)
        self.exactly(common_divisor([-5]), 5)
        self.exactly(common_divisor([GREAT * 6, -GREAT * 4, 0]), GREAT * 2)

    def test_common_divisor_refuses(self):
        for value in STRANGE + (1, [True], [1, None], (1.0,), "12"):
            self.refused(BadNumber("values"), common_divisor, value)


if __name__ == "__main__":
    unittest.main()
