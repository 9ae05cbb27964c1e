"""Placings, what lies beside each, and the chance that one lacks the web."""

import itertools
import math
import random
import unittest
from fractions import Fraction

from tests.asking import STRANGE, Asking, strangers
from tests.filling import chance_of, coins_of, coins_wanted, fillings_of, layings_of, small_cases, things_of, tiny_stores
from tests.making import greatest_webs, lots, made_pairs
from thincoins.books import Book
from thincoins.check_tails import shows_sums
from thincoins.errors import BadBook, BadLot, BadNumber, BadWeb, Misfit, NoPoint, TooMany, Twice
from thincoins.fillings import chance
from thincoins.moments import mean, second
from thincoins.papers import Paper
from thincoins.placings import Sums, lack, many_placings, sums
from thincoins.webs import Web

FOUR, TWO = Book([2], [(0, 0, 1)]), Book([1], [(0, 0, 1)])
TIED, THREE = Web.way(1), Web.all_tied(3)
UNFIT = Web([0, 0], [(0, 1, 1)])


def shuffled_cases(many, **bounds):
    """Small cases, each with all choices of names, told in some order."""
    chances = random.Random(3)
    for book, web, m in small_cases(many, **bounds):
        for names in lots(web.points):
            yield book, web, chances.sample(names, len(names)), m


def rest_layings(book, web, names, m, placing):
    """What the layings of the rest beside this placing want, one by one."""
    rest = [point for point in range(web.points) if point not in names]
    for row in layings_of(book, web, m, rest, placing.values()):
        yield coins_wanted(web, {**placing, **row}, names)


def plain_sums(book, web, names, m):
    """Mean and pairs, laying by laying, beside the first placing."""
    placing = next(layings_of(book, web, m, names), None)
    if placing is None:
        return Fraction(0), Fraction(0)
    wanted = list(rest_layings(book, web, names, m, placing))
    pairs = sum((chance_of(book, m, one | two) for one in wanted for two in wanted if one & two), Fraction(0))
    return sum((chance_of(book, m, one) for one in wanted), Fraction(0)), pairs


def plain_lack(book, web, names, m):
    """The chance that some placing lacks the web, filling by filling."""
    wants = {
        frozenset(rest_layings(book, web, names, m, placing)) for placing in layings_of(book, web, m, names)
    }
    total = Fraction(0)
    for fallen, its in fillings_of(book, m):
        if any(not any(one <= fallen for one in wanted) for wanted in wants):
            total += its
    return total


def pair(value):
    """The ratio as a pair."""
    return (value.numerator, value.denominator)


class TestManyPlacings(Asking):
    def test_as_counted_one_by_one(self):
        for book, web, names, m in shuffled_cases(40, most_things=10, most_coins=99):
            self.exactly(many_placings(book, web, names, m), len(list(layings_of(book, web, m, names))))

    def test_known(self):
        self.exactly(many_placings(FOUR, THREE, [], 2), 1)
        self.exactly(many_placings(FOUR, THREE, [2, 0], 3), 72)
        self.exactly(many_placings(TWO, THREE, (0, 1, 2), 2), 0)
        self.exactly(many_placings(m=1000, names=[0], web=THREE, book=Book([12], [(0, 0, 9)])), 10 ** 36)
        two = Book([1, 2], [(0, 1, 2)])
        self.exactly(many_placings(two, Web([1, 0, 1, 0]), [3, 2, 1], 3), 9 * 6)


class TestSums(Asking):
    def test_as_laying_by_laying(self):
        for book, web, names, m in shuffled_cases(40, seed=51):
            first, pairs = plain_sums(book, web, names, m)
            self.exactly(sums(book, web, names, m), Sums(pair(first), pair(pairs)))

    def test_the_same_beside_each_placing(self):
        for book, web, names, m in shuffled_cases(8, seed=52, most_things=5):
            for placing in layings_of(book, web, m, names):
                total = sum(chance_of(book, m, one) for one in rest_layings(book, web, names, m, placing))
                self.exactly(sums(book, web, names, m).mean, pair(Fraction(total)))

    def test_without_names_as_the_moments(self):
        # The pairs that share no coin are the others of S.
        for book, web in made_pairs(40, most_points=4):
            for m in (2, 3, 1000):
                told = sums(book, web, [], m)
                self.exactly(told.mean, mean(book, web).at(m))
                self.assertLessEqual(Fraction(*told.pairs), Fraction(*second(book, web).at(m)))

    def test_no_room(self):
        self.exactly(sums(TWO, THREE, [0, 1, 2], 2).parts, ((0, 1), (0, 1)))
        self.exactly(sums(TWO, THREE, [0], 2).parts, ((0, 1), (0, 1)))
        self.exactly(sums(TWO, THREE, [], 2).parts, ((0, 1), (0, 1)))
        self.exactly(sums(TWO, THREE, [], 3).parts, ((2, 9), (4, 3)))
        self.exactly(sums(TWO, Web([0, 0]), [0, 1], 2).parts, ((1, 1), (0, 1)))

    def test_rests_without_ties(self):
        self.exactly(sums(FOUR, Web([0] * 3, [(0, 1, 0)]), [1, 0], 2).parts, ((2, 1), (0, 1)))
        self.exactly(sums(FOUR, THREE, [2, 1, 0], 2).parts, ((1, 1), (0, 1)))
        self.exactly(sums(FOUR, Web([0, 0]), [], 3).parts, ((72, 1), (0, 1)))

    def test_friends_of_one_name(self):
        # Each friend is a coin of its own, so each laying shares with itself alone.
        for m in (2, 3, 10, 1000):
            wanted = pair(Fraction(m ** 2 - 1, m))
            self.exactly(sums(m=m, names=[0], web=TIED, book=FOUR).parts, (wanted, wanted))

    def test_six_points(self):
        for book, web in greatest_webs():
            for names in ([], [5], [3, 0]):
                for m in (2, 1000):
                    told = self.quick(sums, book, web, names, m)
                    self.assertIs(self.quick(shows_sums, book, web, names, m, told), True)
        self.exactly(self.quick(sums, Book([12]), Web([0] * 6), [], 2).parts, ((math.perm(4096, 6), 1), (0, 1)))


class TestLack(Asking):
    def test_as_filling_by_filling(self):
        for book, web, names, m in shuffled_cases(25, seed=53):
            self.exactly(lack(book, web, names, m), pair(plain_lack(book, web, names, m)))

    def test_without_names_as_the_chance(self):
        for book, web, m in small_cases(40, seed=54):
            self.assertEqual(Fraction(*lack(book, web, [], m)), 1 - Fraction(*chance(book, web, m)))

    def test_known(self):
        self.exactly(lack(m=2, names=[0], web=TIED, book=TWO), (1, 2))
        self.exactly(lack(TWO, THREE, [0], 2), (1, 1))
        self.exactly(lack(TWO, TIED, [1, 0], 2), (0, 1))
        self.exactly(lack(TWO, THREE, [2, 1, 0], 2), (0, 1))

    def test_eight_things_and_ten_coins(self):
        for book, web, m in tiny_stores():
            for names in ([], [0], [1, 0], list(range(web.points))):
                found = self.quick(lack, book, web, names, m)
                if web.points < 5 and len(coins_of(book, m)) <= 9:
                    self.exactly(found, pair(plain_lack(book, web, names, m)))
        self.assertTrue(any(len(things_of(book, m)) == 8 for book, _, m in tiny_stores()))

    def test_too_many(self):
        self.refused(TooMany("things", 8), lack, TWO, TIED, [0], 9)
        self.refused(TooMany("things", 8), lack, FOUR, TIED, [0], 3)
        self.refused(TooMany("things", 8), lack, TWO, TIED, [], 1000)
        self.refused(TooMany("things", 8), lack, Book([2, 2, 1], [(0, 0, 1)]), TIED, [], 2)
        self.refused(TooMany("coins", 10), lack, TWO, TIED, [0, 1], 6)
        eleven = Book([1, 1, 2], [(0, 2, 1), (0, 0, 2), (1, 1, 1), (0, 0, 1)])
        self.refused(TooMany("coins", 10), lack, eleven, Web([0]), [0], 2)
        self.exactly(lack(Book([3]), Web([0] * 6), [3, 1], 2), (0, 1))


class TestRefused(Asking):
    def test_errors_in_their_order(self):
        for call, more in ((many_placings, ()), (sums, ()), (lack, ()), (shows_sums, (Sums((0, 1), (0, 1)),))):
            for value in STRANGE + (THREE,):
                self.refused(BadBook("book"), call, value, value, value, value, *more)
            for value in STRANGE + (FOUR,):
                self.refused(BadWeb("web"), call, FOUR, value, 7, 1, *more)
            for value in STRANGE + (0, THREE):
                self.refused(BadLot("names"), call, FOUR, UNFIT, value, 1, *more)
            for value in STRANGE + (2, -1, [0]):
                self.refused(NoPoint(value), call, FOUR, UNFIT, [1, 1, value], 1, *more)
            self.refused(Twice(1), call, FOUR, UNFIT, [1, 0, 1], 1, *more)
            for value in STRANGE + (1, 0, -2, 1001, 10 ** 59, [2]):
                self.refused(BadNumber("m"), call, FOUR, UNFIT, [1], value, *more)
            self.refused(Misfit("book"), call, FOUR, UNFIT, [1, 0], 1000, *more)
            self.refused(Misfit("book"), call, TWO, Web([1]), [], 2, *more)


class TestShowsSums(Asking):
    def test_just_the_sums(self):
        right = sums(FOUR, THREE, [0], 2)
        self.exactly(right.parts, ((3, 4), (9, 4)))
        self.assertIs(shows_sums(FOUR, THREE, [0], 2, Sums([3, 4], (9, 4))), True)
        self.assertIs(shows_sums(value=right, m=2, names=(0,), web=THREE, book=FOUR), True)
        for bent in ((6, 8), (3, 5), (4, 4), (3,), (3, 4, 1), (3.0, 4), (3, "4"), "34", None, 3, (), (-3, -4), ((3, 4),)):
            self.assertIs(shows_sums(FOUR, THREE, [0], 2, Sums(bent, (9, 4))), False)
            self.assertIs(shows_sums(FOUR, THREE, [0], 2, Sums((3, 4), bent)), False)
        self.assertIs(shows_sums(FOUR, THREE, [0, 1, 2], 2, Sums((1, 1), (0, 1))), True)
        for bent in (((True, 1), (0, 1)), ((1, True), (0, 1)), ((1, 1), (False, 1)), ((1, 1), (0, 2)), ((1, 1), (0, 0))):
            self.assertIs(shows_sums(FOUR, THREE, [0, 1, 2], 2, Sums(*bent)), False)

    def test_values_of_any_kind(self):
        right = sums(FOUR, THREE, [0], 2)
        others = (Paper("sums", (3, 4), (9, 4)), right.parts, Sums, "sums")
        for value in STRANGE + others + strangers(right):
            self.assertIs(shows_sums(FOUR, THREE, [0], 2, value), False)

    def test_what_the_function_returns(self):
        for book, web, names, m in itertools.islice(shuffled_cases(20, seed=55), 200):
            self.assertIs(shows_sums(book, web, names, m, sums(book, web, names, m)), True)


if __name__ == "__main__":
    unittest.main()
