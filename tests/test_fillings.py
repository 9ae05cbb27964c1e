"""All fillings of small stores, one by one."""

import unittest
from fractions import Fraction

from tests.asking import STRANGE, Asking
from tests.filling import coins_of, coins_wanted, fillings_of, layings_of, small_cases, things_of, tiny_stores
from thincoins.books import Book
from thincoins.errors import BadBook, BadNumber, BadWeb, Misfit, TooMany
from thincoins.fillings import chance, coins, spread
from thincoins.moments import mean, second
from thincoins.webs import Web

EVEN = Book([1], [(0, 0, 1)])
TIE = Web.way(1)
UNFIT = Web([0, 0], [(0, 1, 1)])


def plain_spread(book, web, m):
    """The spread, filling by filling and laying by laying."""
    wanted = [coins_wanted(web, row) for row in layings_of(book, web, m)]
    found = {}
    for fallen, its in fillings_of(book, m):
        number = sum(1 for one in wanted if one <= fallen)
        found[number] = found.get(number, Fraction(0)) + its
    return tuple((number, (found[number].numerator, found[number].denominator)) for number in sorted(found))


class TestCoins(Asking):
    def test_as_counted_one_by_one(self):
        for book, _, m in small_cases(60, most_things=14, most_coins=80):
            self.exactly(coins(book, m), len(coins_of(book, m)))

    def test_known(self):
        self.exactly(coins(Book([2], [(0, 0, 5)]), 3), 36)
        self.exactly(coins(Book([1, 2], [(0, 1, 5), (0, 1, 5), (1, 1, 1)]), 2), 8 + 8 + 6)
        self.exactly(coins(Book([12]), 10 ** 6), 0)
        many = 10 ** 72
        self.exactly(coins(Book([12], [(0, 0, 1)]), 10 ** 6), many * (many - 1) // 2)
        self.exactly(coins(m=4, book=EVEN), 6)

    def test_refused(self):
        for value in STRANGE + (TIE,):
            self.refused(BadBook("book"), coins, value, value)
        for value in STRANGE + (1, 0, -3, 10 ** 6 + 1, 10 ** 59, [2]):
            self.refused(BadNumber("m"), coins, EVEN, value)


class TestSpread(Asking):
    def test_as_filling_by_filling(self):
        for book, web, m in small_cases(60, seed=44):
            self.exactly(spread(book, web, m), plain_spread(book, web, m))

    def test_chances_and_their_moments(self):
        for book, web, m in small_cases(40, seed=45):
            rows = [(number, Fraction(*its)) for number, its in spread(book, web, m)]
            self.assertEqual(sum(its for _, its in rows), 1)
            self.assertTrue(all(its > 0 for _, its in rows))
            self.assertEqual(sum(number * its for number, its in rows), Fraction(*mean(book, web).at(m)))
            self.assertEqual(sum(number ** 2 * its for number, its in rows), Fraction(*second(book, web).at(m)))

    def test_known(self):
        self.exactly(spread(EVEN, TIE, 2), ((0, (1, 2)), (2, (1, 2))))
        self.exactly(spread(EVEN, Web([0, 0, 0]), 2), ((0, (1, 1)),))
        self.exactly(spread(EVEN, Web([0, 0]), 3)[0], (6, (1, 1)))
        self.exactly(spread(Book([3]), Web([0] * 6), 2), ((20160, (1, 1)),))

    def test_eight_things_and_ten_coins(self):
        for book, web, m in tiny_stores():
            self.assertLessEqual(len(things_of(book, m)), 8)
            found = self.quick(spread, book, web, m)
            if len(list(layings_of(book, web, m))) < 1000:
                self.exactly(found, plain_spread(book, web, m))
        full = [(len(things_of(book, m)), len(coins_of(book, m))) for book, _, m in tiny_stores()]
        self.assertTrue((8, 10) in full and (8, 0) in full and (5, 10) in full)


class TestChance(Asking):
    def test_as_the_spread_tells(self):
        for book, web, m in small_cases(60, seed=46):
            none = sum((Fraction(*its) for number, its in plain_spread(book, web, m) if number == 0), Fraction(0))
            self.exactly(chance(book, web, m), ((1 - none).numerator, (1 - none).denominator))

    def test_none_and_all(self):
        self.exactly(chance(EVEN, Web([0, 0, 0]), 2), (0, 1))
        self.exactly(chance(EVEN, Web([0, 0]), 2), (1, 1))
        self.exactly(chance(EVEN, TIE, 2), (1, 2))


class TestRefused(Asking):
    def test_errors_in_their_order(self):
        for call in (spread, chance):
            for value in STRANGE + (TIE,):
                self.refused(BadBook("book"), call, value, value, value)
            for value in STRANGE + (EVEN,):
                self.refused(BadWeb("web"), call, EVEN, value, 1)
            for value in STRANGE + (1, 0, -3, 10 ** 6 + 1, 10 ** 59, [2]):
                self.refused(BadNumber("m"), call, EVEN, UNFIT, value)
            self.refused(Misfit("book"), call, EVEN, UNFIT, 10 ** 6)
            self.assertEqual(call(m=3, web=TIE, book=EVEN), call(EVEN, TIE, 3))

    def test_too_many(self):
        for call in (spread, chance):
            self.refused(TooMany("things", 8), call, EVEN, TIE, 9)
            self.refused(TooMany("things", 8), call, EVEN, TIE, 10 ** 6)
            self.refused(TooMany("things", 8), call, Book([3, 1], [(0, 0, 1)]), Web([0]), 2)
            self.refused(TooMany("coins", 10), call, Book([3], [(0, 0, 1)]), Web([0]), 2)
            self.refused(TooMany("coins", 10), call, EVEN, TIE, 6)
            eleven = Book([1, 1, 2], [(0, 2, 1), (0, 0, 2), (1, 1, 1), (0, 0, 1)])
            self.refused(TooMany("coins", 10), call, eleven, Web([0]), 2)
            self.refused(TooMany("coins", 10), call, Book([2], [(0, 0, 1), (0, 0, 1)]), TIE, 2)
            self.assertEqual(call(Book([2]), Web([0]), 2), call(Book([2], [(0, 0, 1)]), Web([0]), 2))


if __name__ == "__main__":
    unittest.main()
