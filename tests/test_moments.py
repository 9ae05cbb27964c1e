"""What two layings share, mean and second, and the bounds of chances by them."""

import itertools
import unittest
from fractions import Fraction

from tests.asking import STRANGE, Asking
from tests.filling import chance_of, coins_wanted, layings_of, small_cases
from tests.making import greatest_webs, lots, made_pairs
from thincoins.books import Book
from thincoins.errors import BadBook, BadNumber, BadWeb, Misfit, TooMany
from thincoins.fillings import chance
from thincoins.layings import turns
from thincoins.moments import at_least, at_most, mean, second, sharings
from thincoins.quotients import Quotient
from thincoins.webs import Web

EVEN = Book([1], [(0, 0, 1)])
TIE = Web.way(1)
UNFIT = Web([0, 0], [(0, 1, 1)])
SIX = Web.way(5)


def plain_sharings(web):
    """The sharings, counted one by one."""
    counted = {}
    ties = set(web.ties)
    for shared in lots(web.points):
        for told in itertools.permutations(range(web.points), len(shared)):
            if all(web.kinds[one] == web.kinds[two] for one, two in zip(shared, told)):
                to = dict(zip(shared, told))
                same = [
                    sort for one, two, sort in web.ties
                    if one in to and two in to and tuple(sorted((to[one], to[two]))) + (sort,) in ties
                ]
                points = tuple(sum(web.kinds[point] == kind for point in shared) for kind in range(3))
                key = (points, tuple(same.count(sort) for sort in range(4)))
                counted[key] = counted.get(key, 0) + 1
    return tuple(sorted(key + (many,) for key, many in counted.items()))


def plain_mean(book, web, m):
    """The mean, laying by laying."""
    return sum((chance_of(book, m, coins_wanted(web, row)) for row in layings_of(book, web, m)), Fraction(0))


def plain_second(book, web, m):
    """The mean of the square, by each two layings."""
    rows = [coins_wanted(web, row) for row in layings_of(book, web, m)]
    return sum((chance_of(book, m, one | two) for one in rows for two in rows), Fraction(0))


def pair(value):
    """The ratio as a pair."""
    return (value.numerator, value.denominator)


def few_points():
    """The greatest webs, without their last point."""
    for book, web in greatest_webs():
        yield book, web.part([0, 1, 2, 3, 4])


def crowded():
    """A web of five points with fifteen ties, and the thinnest book that it fits."""
    wishes = [(one, two, sort) for sort in range(4) for one, two in itertools.combinations(range(5), 2)]
    return Book([12], [(0, 0, 24)] * 4), Web([0] * 5, wishes[:15])


class TestSharings(Asking):
    def test_as_counted_one_by_one(self):
        for _, web in made_pairs(120):
            self.exactly(sharings(web), plain_sharings(web))

    def test_known(self):
        self.exactly(sharings(Web([2])), (((0, 0, 0), (0, 0, 0, 0), 1), ((0, 0, 1), (0, 0, 0, 0), 1)))
        self.exactly(sharings(Web([0, 1], [(0, 1, 3)]))[-1], ((1, 1, 0), (0, 0, 0, 1), 1))
        self.exactly(sum(row[2] for row in sharings(Web([0] * 5))), 1546)

    def test_refused(self):
        for value in STRANGE + (EVEN, "0 : -"):
            self.refused(BadWeb("web"), sharings, value)
        self.refused(TooMany("points", 5), sharings, SIX)
        self.refused(TooMany("points", 5), sharings, Web([0, 1, 2, 0, 1, 2]))
        self.exactly(sharings(web=TIE), sharings(TIE))

    def test_five_points(self):
        for _, web in few_points():
            self.quick(sharings, web)


class TestMeanAndSecond(Asking):
    def test_as_laying_by_laying(self):
        for book, web, m in small_cases(60):
            self.exactly(mean(book, web).at(m), pair(plain_mean(book, web, m)))
            self.exactly(second(book, web).at(m), pair(plain_second(book, web, m)))

    def test_quotients_of_least_power(self):
        for book, web in made_pairs(60):
            for found in (mean(book, web), second(book, web)):
                self.assertIs(type(found), Quotient)
                self.assertTrue(found.power == 0 or found.over.numbers[0] != 0)

    def test_turned_points(self):
        for book, web in made_pairs(30, most_points=4):
            turned = web.in_order(list(range(web.points))[::-1])
            self.assertTrue(mean(book, web) == mean(book, turned))
            self.assertTrue(second(book, web) == second(book, turned))

    def test_any_degree(self):
        book, web = crowded()
        found = self.quick(second, book, web)
        self.assertGreater(found.over.degree, 400)
        self.exactly((mean(book, web).over.degree, mean(book, web).power), (48, 348))
        self.assertGreater(Fraction(*found.at(2)), Fraction(*mean(book, web).at(2)) ** 2)
        self.quick(mean, Book([12], [(0, 0, 24)]), Web.all_tied(6))
        self.exactly(mean(Book([12], [(0, 0, 24)]), Web.all_tied(6)).power, 348)

    def test_refused(self):
        for call in (mean, second):
            for value in STRANGE + (TIE, "1 : -"):
                self.refused(BadBook("book"), call, value, value)
            for value in STRANGE + (EVEN, "0 : -"):
                self.refused(BadWeb("web"), call, EVEN, value)
            self.refused(Misfit("book"), call, EVEN, UNFIT)
            self.assertTrue(call(web=TIE, book=EVEN) == call(EVEN, TIE))
        self.refused(Misfit("book"), second, EVEN, Web.way(5, 1))
        self.refused(TooMany("points", 5), second, EVEN, SIX)
        self.exactly(mean(EVEN, SIX).power, 4)


class TestBounds(Asking):
    def test_as_the_moments_tell(self):
        for book, web, m in small_cases(60, seed=42):
            first = plain_mean(book, web, m)
            wanted = first * first / plain_second(book, web, m) if first else Fraction(0)
            self.exactly(at_least(book, web, m), pair(wanted))
            means = [plain_mean(book, web.part(part), m) / turns(web.part(part)) for part in lots(web.points)[1:]]
            self.exactly(at_most(book, web, m), pair(min([Fraction(1)] + means)))

    def test_the_chance_lies_between(self):
        for book, web, m in small_cases(60, seed=43):
            told = [Fraction(*call(book, web, m)) for call in (at_least, chance, at_most)]
            self.assertTrue(0 <= told[0] <= told[1] <= told[2] <= 1)

    def test_no_room(self):
        self.exactly(at_least(EVEN, Web([0, 0, 0]), 2), (0, 1))
        self.exactly(at_most(EVEN, Web([0, 0, 0]), 2), (0, 1))
        self.exactly(at_most(EVEN, Web([0] * 6), 5), (0, 1))
        self.exactly(at_most(EVEN, Web([0] * 6), 6), (1, 1))

    def test_points_alone(self):
        self.exactly((at_least(EVEN, Web([0, 0]), 2), at_most(EVEN, Web([0, 0]), 2)), ((1, 1), (1, 1)))

    def test_the_turns_of_a_part(self):
        thin = Book([1], [(0, 0, 3)])
        self.exactly(at_most(thin, TIE, 4), (3, 32))
        self.exactly(at_most(thin, Web.all_tied(3), 4), (1, 65536))

    def test_greatest_m_and_webs(self):
        for book, web in few_points():
            low = self.quick(at_least, book, web, 10 ** 6)
            high = self.quick(at_most, book, web, 10 ** 6)
            self.assertTrue(Fraction(*low) <= Fraction(*high))
        for book, web in greatest_webs():
            self.quick(at_most, book, web, 10 ** 6)
        book, web = crowded()
        self.quick(at_least, book, web, 10 ** 6)
        book = Book([11], [(0, 0, 7)])
        self.assertTrue(Fraction(999, 1000) < Fraction(*at_least(book, Web.all_tied(4), 10 ** 6)) < 1)

    def test_errors_in_their_order(self):
        for call in (at_least, at_most):
            for value in STRANGE + (TIE,):
                self.refused(BadBook("book"), call, value, value, value)
            for value in STRANGE + (EVEN,):
                self.refused(BadWeb("web"), call, EVEN, value, 1)
            for value in STRANGE + (1, 0, -2, 10 ** 6 + 1, 10 ** 59, [2]):
                self.refused(BadNumber("m"), call, EVEN, UNFIT, value)
            self.refused(Misfit("book"), call, EVEN, UNFIT, 2)
            self.assertEqual(call(m=3, web=TIE, book=EVEN), call(EVEN, TIE, 3))
        self.refused(Misfit("book"), at_least, EVEN, Web.way(5, 1), 2)
        self.refused(TooMany("points", 5), at_least, EVEN, SIX, 2)
        self.refused(BadNumber("m"), at_least, EVEN, SIX, 1)


if __name__ == "__main__":
    unittest.main()
