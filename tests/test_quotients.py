"""Quotients: the least powers, values, sums and products."""

import random
import unittest
from fractions import Fraction

from tests.asking import STRANGE, Asking
from thincoins.errors import BadNumber, BadPolynomial, BadQuotient, TooMany
from thincoins.polynomials import Polynomial
from thincoins.quotients import Quotient

GREAT = 10 ** 60 - 1
PLACES = (2, 3, 10, 10 ** 6)


def value_at(quotient, m):
    """The value at m, from over and power."""
    return Fraction(quotient.over(m), m ** quotient.power)


def made(many, seed=23):
    """Quotients of many shapes."""
    chance = random.Random(seed)
    for _ in range(many):
        size = chance.choice((2, 9, GREAT))
        row = [0] * chance.randint(0, 4) + [chance.choice((0, 1, -1)) * chance.randint(0, size) for _ in range(chance.randint(0, 5))]
        yield Quotient(Polynomial(row), chance.randint(0, 5))


class TestQuotient(Asking):
    def told(self, quotient, numbers, power):
        self.exactly((quotient.over.numbers, quotient.power), (numbers, power))
        self.assertIs(type(quotient.over), Polynomial)

    def test_common_factors_go(self):
        self.told(Quotient(Polynomial([0, 0, 3, 6]), 3), (3, 6), 1)
        self.told(Quotient(Polynomial([0, 0, 3]), 1), (0, 3), 0)
        self.told(Quotient(Polynomial([0, 0, 3]), 2), (3,), 0)
        self.told(Quotient(Polynomial([1, 0, 3]), 4), (1, 0, 3), 4)
        self.told(Quotient(Polynomial([0, 4]), 0), (0, 4), 0)
        self.told(Quotient(Polynomial([0, 4]), 1000), (4,), 999)
        self.told(Quotient(power=1, over=Polynomial([2])), (2,), 1)

    def test_without_integers(self):
        for power in (0, 1, 7, 1000):
            self.told(Quotient(Polynomial([]), power), (), 0)

    def test_as_small_as_can_be(self):
        for quotient in made(200):
            self.assertTrue(quotient.power == 0 or quotient.over.numbers[0] != 0)

    def test_refused(self):
        for value in STRANGE + ([1], 3, Quotient(Polynomial([1]), 0)):
            self.refused(BadPolynomial("over"), Quotient, value, value)
        for value in STRANGE + (-1, 1001, 10 ** 60, [1]):
            self.refused(BadNumber("power"), Quotient, Polynomial([0, 1]), value)
        self.told(Quotient(Polynomial([1]), 1000), (1,), 1000)

    def test_equality(self):
        one = Quotient(Polynomial([0, 1, 2]), 2)
        self.assertTrue(one == Quotient(Polynomial([1, 2]), 1))
        self.assertFalse(one != Quotient(Polynomial([1, 2]), 1))
        for other in (Quotient(Polynomial([1, 2]), 2), Quotient(Polynomial([1, 3]), 1), Polynomial([1, 2]), None, (1, 2), 1):
            self.assertIs(one == other, False)
            self.assertIs(one != other, True)


class TestSigns(Asking):
    def test_sums_differences_products(self):
        told = list(made(80))
        for one, other in zip(told, told[1:]):
            before = (one.over.numbers, one.power)
            for found, sign in ((one + other, "+"), (one - other, "-"), (one * other, "*")):
                self.assertIs(type(found), Quotient)
                self.assertTrue(found.power == 0 or found.over.numbers[0] != 0)
                for m in PLACES:
                    a, b = value_at(one, m), value_at(other, m)
                    wanted = {"+": a + b, "-": a - b, "*": a * b}[sign]
                    self.assertEqual(value_at(found, m), wanted)
                    self.exactly(found.at(m), (wanted.numerator, wanted.denominator))
            self.exactly((one.over.numbers, one.power), before)

    def test_factors_that_go_in_sums(self):
        half = Quotient(Polynomial([1, 1]), 1)
        found = half - Quotient(Polynomial([1]), 1)
        self.exactly((found.over.numbers, found.power), ((1,), 0))
        found = half + Quotient(Polynomial([-1, 2]), 3)
        self.exactly((found.over.numbers, found.power), ((-1, 2, 1, 1), 3))

    def test_powers_about_a_thousand(self):
        far, half = Quotient(Polynomial([1]), 1000), Quotient(Polynomial([3]), 500)
        self.exactly((half * half).power, 1000)
        self.exactly(((far + half).over.numbers, (far + half).power), ((1,) + (0,) * 499 + (3,), 1000))
        self.exactly((far - far).power, 0)
        one = Quotient(Polynomial([1, 1]), 1)
        self.refused(TooMany("power", 1000), lambda: far * one)
        self.refused(TooMany("power", 1000), lambda: one * far)
        # Both powers together decide, whatever the product would come to.
        self.refused(TooMany("power", 1000), lambda: far * Quotient(Polynomial([1, 1]), 1))

    def test_errors_of_products_in_their_order(self):
        long = Polynomial([1] * 401)
        self.exactly((Quotient(long, 3) * Quotient(Polynomial([2]), 4)).power, 7)
        self.refused(TooMany("degree", 400), lambda: Quotient(long, 3) * Quotient(Polynomial([1, 1]), 4))
        self.refused(TooMany("power", 1000), lambda: Quotient(long, 600) * Quotient(long, 401))
        self.refused(TooMany("degree", 400), lambda: Quotient(long, 600) * Quotient(long, 400))

    def test_sums_of_any_degree(self):
        long = Quotient(Polynomial([1] * 700), 900)
        found = long + Quotient(Polynomial([0] * 650 + [1]), 0)
        self.exactly((found.over.degree, found.power), (1550, 900))

    def test_others(self):
        one = Quotient(Polynomial([1]), 2)
        for value in STRANGE + (3, [1], Polynomial([1])):
            self.refused(BadQuotient("other"), lambda: one + value)
            self.refused(BadQuotient("other"), lambda: one - value)
            self.refused(BadQuotient("other"), lambda: one * value)


class TestAt(Asking):
    def test_in_lowest_terms(self):
        self.exactly(Quotient(Polynomial([2, 0, 0, 6]), 2).at(2), (25, 2))
        self.exactly(Quotient(Polynomial([-8, 1]), 3).at(2), (-3, 4))
        self.exactly(Quotient(Polynomial([-8, 0, 0, 1]), 3).at(2), (0, 1))
        self.exactly(Quotient(Polynomial([]), 3).at(m=5), (0, 1))
        self.assertTrue(Quotient(Polynomial([1]), 1000).at(10 ** 6) == (1, 10 ** 6000))

    def test_refused(self):
        for value in STRANGE + (1, 0, -2, 10 ** 6 + 1, 10 ** 60, [2]):
            self.refused(BadNumber("m"), Quotient(Polynomial([1]), 1).at, value)


if __name__ == "__main__":
    unittest.main()
