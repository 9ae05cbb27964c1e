"""Polynomials: their numbers, values, sums, products and shifts."""

import random
import unittest

from tests.asking import STRANGE, Asking
from thincoins.errors import BadNumber, BadPolynomial, TooMany
from thincoins.polynomials import Polynomial
from thincoins.quotients import Quotient

GREAT = 10 ** 60 - 1
POINTS = (-GREAT, -7, -1, 0, 1, 2, 3, 10, GREAT)


def value_at(numbers, m):
    """The value, power by power."""
    return sum(number * m ** at for at, number in enumerate(numbers))


def rows(many, seed=17, most=6):
    """Rows of integers, some with 0 at the end or in between, some of none."""
    chance = random.Random(seed)
    for _ in range(many):
        size = chance.choice((2, 9, GREAT))
        row = [chance.choice((0, chance.randint(-size, size))) for _ in range(chance.randint(0, most))]
        yield row + [0] * chance.choice((0, 0, 1, 3))


class TestNumbers(Asking):
    def test_zeros_at_the_end_go(self):
        for row, wanted in (
            ([], ()), ([0], ()), ((0, 0), ()), ([1], (1,)), ([0, 1], (0, 1)), ((2, 0, -1, 0, 0), (2, 0, -1)), ([-1, 0], (-1,)),
        ):
            self.exactly(Polynomial(row).numbers, wanted)
            self.exactly(Polynomial(row).degree, len(wanted) - 1)
        self.exactly(Polynomial(numbers=[3]).numbers, (3,))

    def test_what_is_passed_is_copied(self):
        row = [1, 2]
        told = Polynomial(row)
        row[1] = 5
        row.append(7)
        self.exactly((told.numbers, told.degree, told(1)), ((1, 2), 1, 3))

    def test_equality(self):
        self.assertTrue(Polynomial([1, 2]) == Polynomial((1, 2, 0)))
        self.assertFalse(Polynomial([1, 2]) != Polynomial((1, 2, 0)))
        self.assertTrue(Polynomial([]) == Polynomial([0]))
        for other in (Polynomial([1]), Polynomial([2, 1]), Polynomial([1, 2, 3]), (1, 2), [1, 2], None, 3, Quotient(Polynomial([1, 2]), 0)):
            self.assertIs(Polynomial([1, 2]) == other, False)
            self.assertIs(Polynomial([1, 2]) != other, True)
        self.assertIs(Polynomial([]) == 0, False)

    def test_refused(self):
        for value in STRANGE + (7, [True], [1, None], (1, 2.0), [[1]], "12", Polynomial([1])):
            self.refused(BadPolynomial("numbers"), Polynomial, value)

    def test_as_many_numbers_as_are_told(self):
        told = Polynomial([1] * 1500)
        self.exactly((told.degree, told(1), (told + told).degree, (told - told).degree), (1499, 1500, 1499, -1))


class TestValues(Asking):
    def test_at_any_integer(self):
        for row in rows(60):
            for m in POINTS:
                self.exactly(Polynomial(row)(m), value_at(row, m))
        self.exactly(Polynomial([])(5), 0)
        self.exactly(Polynomial([4])(m=0), 4)

    def test_refused(self):
        for value in STRANGE + ([1], (2,)):
            self.refused(BadNumber("m"), Polynomial([1, 1]), value)


class TestSigns(Asking):
    def test_sums_differences_products_contraries(self):
        told = list(rows(40))
        for one, other in zip(told, told[1:]):
            left, right = Polynomial(one), Polynomial(other)
            for m in POINTS:
                a, b = value_at(one, m), value_at(other, m)
                self.exactly([(left + right)(m), (left - right)(m), (left * right)(m), (-left)(m)], [a + b, a - b, a * b, -a])
            for found in (left + right, left - right, left * right, -left):
                self.assertIs(type(found), Polynomial)
                self.exactly(found.degree, len(found.numbers) - 1)
                self.assertTrue(not found.numbers or found.numbers[-1] != 0)
            self.exactly((left.numbers, right.numbers), (Polynomial(one).numbers, Polynomial(other).numbers))

    def test_leading_numbers_that_cancel(self):
        self.exactly((Polynomial([1, 2, 3]) + Polynomial([0, 1, -3])).numbers, (1, 3))
        self.exactly((Polynomial([1, 2, 3]) - Polynomial([0, 2, 3])).numbers, (1,))
        self.exactly((Polynomial([1, 2]) * Polynomial([])).numbers, ())

    def test_others(self):
        for value in STRANGE + (3, [1], Quotient(Polynomial([1]), 0)):
            self.refused(BadPolynomial("other"), lambda: Polynomial([1]) + value)
            self.refused(BadPolynomial("other"), lambda: Polynomial([1]) - value)
            self.refused(BadPolynomial("other"), lambda: Polynomial([1]) * value)

    def test_degrees_about_four_hundred(self):
        half, long = Polynomial.lone(200), Polynomial([0] * 400 + [2])
        self.exactly((half * half).degree, 400)
        self.exactly((long * Polynomial([3])).numbers, (0,) * 400 + (6,))
        self.exactly((long * Polynomial([])).degree, -1)
        self.exactly((Polynomial([0] * 401 + [2]) * Polynomial([])).degree, -1)
        more = Polynomial([0, 1])
        self.refused(TooMany("degree", 400), lambda: long * more)
        self.refused(TooMany("degree", 400), lambda: more * long)
        self.refused(TooMany("degree", 400), lambda: (half * more) * half)
        self.refused(TooMany("degree", 400), lambda: Polynomial([1] * 402) * Polynomial([1]))
        self.refused(TooMany("degree", 400), lambda: Polynomial([1] * 403) * Polynomial([]))
        self.refused(BadPolynomial("other"), lambda: Polynomial([1] * 900) * 7)


class TestShifted(Asking):
    def test_values_at_shifted_places(self):
        for row in rows(30):
            for by in POINTS:
                found = Polynomial(row).shifted(by)
                for t in (-3, -1, 0, 1, 2, 8):
                    self.exactly(found(t), value_at(row, t + by))
        self.exactly(Polynomial([1, 2]).shifted(by=1).numbers, (3, 2))
        self.exactly(Polynomial([]).shifted(4).numbers, ())
        self.exactly(Polynomial([5]).shifted(4).numbers, (5,))

    def test_there_and_back(self):
        chance = random.Random(3)
        told = Polynomial([chance.randint(-GREAT, GREAT) for _ in range(401)])
        found = self.quick(told.shifted, GREAT)
        self.assertTrue(found.shifted(-GREAT) == told)

    def test_refused(self):
        for value in STRANGE + ([1],):
            self.refused(BadNumber("by"), Polynomial([1, 1]).shifted, value)


class TestMade(Asking):
    def test_lone(self):
        for degree in (0, 1, 2, 37, 199, 200):
            self.exactly(Polynomial.lone(degree).numbers, (0,) * degree + (1,))
        self.exactly(Polynomial.lone(degree=3)(2), 8)
        for value in STRANGE + (-1, 201, 10 ** 60, [1]):
            self.refused(BadNumber("degree"), Polynomial.lone, value)

    def test_falling(self):
        for size in range(1, 13):
            for many in range(13):
                found = Polynomial.falling(size, many)
                self.exactly(found.degree, size * many)
                for m in (-1, 0, 1, 2, 3):
                    wanted = 1
                    for less in range(many):
                        wanted *= m ** size - less
                    self.exactly(found(m), wanted)
        self.exactly(Polynomial.falling(many=2, size=1).numbers, (0, -1, 1))

    def test_falling_refused(self):
        for value in STRANGE + (0, 13, -1):
            self.refused(BadNumber("size"), Polynomial.falling, value, value)
        for value in STRANGE + (-1, 13):
            self.refused(BadNumber("many"), Polynomial.falling, 1, value)


if __name__ == "__main__":
    unittest.main()
