"""From which m on a web is there, or is not; which papers about it are right."""

import math
import random
import unittest
from fractions import Fraction

from tests.asking import STRANGE, Asking, strangers
from tests.making import greatest_webs, lots, made_pairs, plain_weight
from thincoins.books import Book
from thincoins.check_moments import shows_from
from thincoins.errors import BadBook, BadPolynomial, BadRatio, BadWeb, Impossible, Misfit, TooMany
from thincoins.handings import Comes, OnBreak, Rare, comes
from thincoins.layings import turns
from thincoins.moments import at_least, mean, second
from thincoins.papers import Paper
from thincoins.polynomials import Polynomial
from thincoins.quotients import Quotient
from thincoins.surely import RareFrom, SureFrom, above_from, rare_from, stays_above, sure_from
from thincoins.webs import Web

EVEN, THIN = Book([1], [(0, 0, 1)]), Book([1], [(0, 0, 3)])
TIE, SIX = Web.way(1), Web.way(5)
UNFIT = Web([0, 0], [(0, 1, 1)])
HALF = (1, 2)
GREAT = 10 ** 60 - 1
BAD_SHARES = ((0, 1), (1, 1), (2, 1), (-1, 2), (2, 4), (1, 0), (-1, -2), (1,), (1, 2, 3), (True, 2), (1, 2.0), 1, [])


def shifted_row(row, m):
    """The numbers of p(m + t), by binomials."""
    return [sum(math.comb(at, place) * row[at] * m ** (at - place) for at in range(place, len(row))) for place in range(len(row))]


def is_above(row, m):
    """Whether no number of p(m + t) is below 0, and the first one is above 0."""
    told = shifted_row(row, m)
    return bool(told) and told[0] > 0 and min(told) >= 0


def plain_least(row, most):
    """The least m up to most at which it is above, one by one."""
    return next((m for m in range(2, most) if is_above(row, m)), None)


def sure_row(book, web, share):
    """The over of b M M - a S, its numbers without 0 ahead of m to the power."""
    first, square = mean(book, web), second(book, web)
    power = max(2 * first.power, square.power)
    twice = (first.over * first.over).numbers
    left = [0] * (power - 2 * first.power) + [share[1] * number for number in twice]
    right = [0] * (power - square.power) + [share[0] * number for number in square.over.numbers]
    many = max(len(left), len(right))
    row = [a - b for a, b in zip(left + [0] * (many - len(left)), right + [0] * (many - len(right)))]
    while power and (not row or row[0] == 0):
        row, power = row[1:], power - 1
    return row


def rare_row(book, web, part, share):
    """The over of a times the turns less b times the mean of the part."""
    alone = web.part(part)
    told = mean(book, alone)
    row = [-share[1] * number for number in told.over.numbers]
    row += [0] * (told.power + 1 - len(row))
    row[told.power] += share[0] * turns(alone)
    power = told.power
    while power and row[0] == 0:
        row, power = row[1:], power - 1
    while row and row[-1] == 0:
        row.pop()
    return row


class TestAboveFrom(Asking):
    def test_known(self):
        for row, wanted in (
            ([-10, 0, 1], 4), ([10, -6, 1], 3), ([3], 2), ([5, -1], None), ([], None), ([0], None), ([-3], None), ([0, 1], 2),
            ([-2, 1], 3), ([-1, 1], 2), ([0, 0, -2, 1], 3), ([4, -4, 1], 3), ([-9, 0, 1], 4), ([1, 0, -1], None), ([0, -9, 3], 4),
            ([5, -4, 1], 2), ([0, 5, -4, 1], 2), ([9, 0, 0, 1], 2),
        ):
            self.exactly(above_from(Polynomial(row)), wanted)
        self.exactly(above_from(polynomial=Polynomial([1])), 2)

    def test_one_by_one(self):
        chance = random.Random(7)
        for _ in range(500):
            size = chance.choice((3, 30, 900))
            row = [chance.randint(-size, size) for _ in range(chance.randint(0, 5))] + [chance.randint(1, 9)]
            self.exactly(above_from(Polynomial(row)), plain_least(row, 2000))
            self.exactly(above_from(-Polynomial(row)), None)

    def test_products_of_factors_without_real_roots(self):
        chance = random.Random(8)
        for _ in range(150):
            told = Polynomial([1])
            for _ in range(chance.randint(1, 4)):
                middle = chance.randint(-3, 40)
                told = told * Polynomial([middle * middle + chance.randint(0, 90), -2 * middle, 1])
            self.exactly(above_from(told), plain_least(told.numbers, 2000))

    def test_a_great_m(self):
        self.exactly(above_from(Polynomial([-GREAT, 1])), GREAT + 1)
        self.exactly(above_from(Polynomial([GREAT, -1, 1])), 2)
        self.exactly(above_from(Polynomial([-GREAT * GREAT, 0, 1])), GREAT + 1)
        self.exactly(above_from(Polynomial([0] * 399 + [-GREAT, 1])), GREAT + 1)
        self.exactly(above_from(Polynomial([GREAT * GREAT + 1, -2 * GREAT, 1])), GREAT)

    def test_least_of_great_ones(self):
        chance = random.Random(9)
        for degree in (1, 2, 5, 12, 30):
            for _ in range(12):
                row = [chance.randint(-GREAT, GREAT) for _ in range(degree)] + [chance.randint(1, 10 ** chance.randint(0, 60))]
                m = above_from(Polynomial(row))
                self.assertTrue(is_above(row, m))
                self.assertTrue(m == 2 or not is_above(row, m - 1))

    def test_degree_four_hundred_and_above(self):
        chance = random.Random(10)
        for degree in (399, 400, 401, 480):
            row = [chance.randint(-GREAT, GREAT) for _ in range(degree)]
            for last in (1, 10 ** 30, GREAT):
                m = self.quick(above_from, Polynomial(row + [last]))
                self.assertGreater(Polynomial(row + [last])(m), 0)
            m = self.quick(above_from, Polynomial([-GREAT] * degree + [1]))
            self.exactly(m, GREAT + 1)
        many = Polynomial([1])
        for root in range(100):
            many = many * Polynomial([10 ** 40 * (root + 1), -2 * 10 ** 20 - root, 1])
        self.quick(above_from, many)

    def test_roots_as_far_out_as_can_be(self):
        # Of m^n - r m^(n - 1) - r r m^(n - 2) .. one root is just below 2 r.
        for r in (3, 4, 7, 8, 15, 255, 256, 2 ** 40 - 1, 2 ** 40):
            for degree in (1, 2, 3, 8, 20):
                row = [-(r ** (degree - at)) for at in range(degree)] + [1]
                m = self.quick(above_from, Polynomial(row))
                self.assertTrue(is_above(row, m) and not is_above(row, m - 1))

    def test_stays_above(self):
        for row, m, wanted in (([], 2, False), ([1], 2, True), ([-1], 2, False), ([-2, 1], 2, False), ([-2, 1], 3, True)):
            self.assertIs(stays_above(Polynomial(row), m), wanted)

    def test_refused(self):
        for value in STRANGE + ([1], (1, 2), 3, Quotient(Polynomial([1]), 0)):
            self.refused(BadPolynomial("polynomial"), above_from, value)


class TestSureFrom(Asking):
    def test_known(self):
        self.exactly(sure_from(EVEN, TIE, HALF), SureFrom(3))
        self.exactly(sure_from(EVEN, TIE, [9, 10]), SureFrom(19))
        self.exactly(sure_from(EVEN, Web([0]), (GREAT - 1, GREAT)), SureFrom(2))
        self.exactly(sure_from(share=HALF, web=TIE, book=EVEN).m, 3)

    def test_as_one_by_one(self):
        found = 0
        for book, web in made_pairs(150, most_points=4):
            for share in (HALF, (9, 10), (1, 10 ** 50)):
                if comes(book, web):
                    row = sure_row(book, web, share)
                    m = sure_from(book, web, share).m
                    self.assertTrue(is_above(row, m))
                    self.assertTrue(m == 2 or not is_above(row, m - 1))
                    self.assertGreater(Fraction(*at_least(book, web, m)), Fraction(*share))
                    self.assertGreater(Fraction(*at_least(book, web, m + 1)), Fraction(*share))
                    found += 1
        self.assertGreater(found, 50)

    def test_what_does_not_come(self):
        words = set()
        for book, web in made_pairs(120):
            paper = comes(book, web)
            if not paper:
                self.refused(Impossible(paper), sure_from, book, web, HALF)
                words.add(paper.word)
        self.assertEqual(words, {"rare", "onbreak"})
        self.refused(Impossible(OnBreak((0, 1, 2))), sure_from, EVEN, Web.all_tied(3), HALF)
        self.refused(Impossible(Rare((0, 1))), sure_from, THIN, TIE, HALF)

    def test_m_up_to_a_million(self):
        # Of the tie, b M M - a S is above 0 where m (b - a) is above 2 a.
        for by in range(2, 40):
            self.exactly(sure_from(EVEN, TIE, (by - 1, by)).m, 2 * by - 1)
        self.exactly(sure_from(EVEN, TIE, (499999, 500000)).m, 999999)
        self.exactly(sure_from(EVEN, TIE, (1499999, 1500002)).m, 10 ** 6)
        self.refused(TooMany("m", 10 ** 6), sure_from, EVEN, TIE, (1500001, 1500004))
        self.refused(TooMany("m", 10 ** 6), self.quick, sure_from, EVEN, TIE, (GREAT - 1, GREAT))

    def test_shares_near_to_0_and_1(self):
        five = Web.all_tied(5)
        book = Book([12], [(0, 0, 5)])
        self.exactly(self.quick(sure_from, book, five, (1, GREAT)).word, "surefrom")
        self.refused(TooMany("m", 10 ** 6), self.quick, sure_from, book, five, (GREAT - 1, GREAT))
        for book, web in greatest_webs():
            part = web.part([0, 1, 2, 3, 4])
            if comes(book, part):
                self.assertTrue(self.quick(sure_from, book, part, HALF))

    def test_errors_in_their_order(self):
        for value in STRANGE + (TIE,):
            self.refused(BadBook("book"), sure_from, value, value, value)
        for value in STRANGE + (EVEN,):
            self.refused(BadWeb("web"), sure_from, EVEN, value, 7)
        for value in STRANGE + BAD_SHARES:
            self.refused(BadRatio("share"), sure_from, EVEN, UNFIT, value)
        self.refused(Misfit("book"), sure_from, EVEN, Web.way(5, 1), HALF)
        self.refused(TooMany("points", 5), sure_from, EVEN, SIX, HALF)
        self.refused(TooMany("points", 5), sure_from, THIN, SIX, HALF)
        self.refused(Impossible(Rare((0, 1))), sure_from, THIN, TIE, (GREAT - 1, GREAT))


class TestRareFrom(Asking):
    def test_known(self):
        self.exactly(rare_from(THIN, TIE, (1, 10)), RareFrom(4, (0, 1)))
        self.exactly(rare_from(share=[1, 2], web=TIE, book=THIN).parts, (2, (0, 1)))

    def test_as_one_by_one(self):
        found = 0
        for book, web in made_pairs(150, most_points=5):
            paper = comes(book, web)
            for share in (HALF, (1, 10), (99, 100)):
                if paper.word == "rare":
                    row = rare_row(book, web, paper.part, share)
                    told = rare_from(book, web, share)
                    self.exactly(told.part, paper.part)
                    self.assertTrue(is_above(row, told.m))
                    self.assertTrue(told.m == 2 or not is_above(row, told.m - 1))
                    alone = web.part(paper.part)
                    self.assertLess(Fraction(*mean(book, alone).at(told.m)) / turns(alone), Fraction(*share))
                    found += 1
        self.assertGreater(found, 50)

    def test_what_is_not_rare(self):
        words = set()
        for book, web in made_pairs(120):
            paper = comes(book, web)
            if paper.word != "rare":
                self.refused(Impossible(paper), rare_from, book, web, HALF)
                words.add(paper.word)
        self.assertEqual(words, {"comes", "onbreak"})
        self.refused(Impossible(Comes(())), rare_from, EVEN, Web([0] * 6), HALF)

    def test_m_up_to_a_million(self):
        # Of thinness 3 it is 2 a - b (m - 1) / m m: about b / 2 for a share of 1 / b.
        self.exactly(rare_from(THIN, TIE, (1, 2 * 10 ** 6)).m, 999999)
        self.refused(TooMany("m", 10 ** 6), rare_from, THIN, TIE, (1, 2 * 10 ** 6 + 4))
        self.refused(TooMany("m", 10 ** 6), self.quick, rare_from, THIN, TIE, (1, GREAT))
        self.exactly(self.quick(rare_from, THIN, TIE, (GREAT - 1, GREAT)).m, 2)

    def test_greatest_webs(self):
        for book, web in greatest_webs():
            if comes(book, web).word == "rare":
                self.assertTrue(self.quick(rare_from, book, web, HALF))

    def test_errors_in_their_order(self):
        for value in STRANGE + (TIE,):
            self.refused(BadBook("book"), rare_from, value, value, value)
        for value in STRANGE + (EVEN,):
            self.refused(BadWeb("web"), rare_from, EVEN, value, 7)
        for value in STRANGE + BAD_SHARES:
            self.refused(BadRatio("share"), rare_from, EVEN, UNFIT, value)
        self.refused(Misfit("book"), rare_from, EVEN, UNFIT, HALF)
        self.refused(Impossible(comes(EVEN, SIX)), rare_from, EVEN, SIX, (1, GREAT))
        self.exactly(rare_from(THIN, SIX, HALF).part, (0, 1, 2, 3, 4, 5))


class TestShowsFrom(Asking):
    def test_each_m_of_a_sure_from(self):
        for book, web in made_pairs(60, most_points=3):
            row = sure_row(book, web, HALF)
            for m in (2, 3, 4, 9, 40, 10 ** 7):
                self.assertIs(shows_from(book, web, HALF, SureFrom(m)), is_above(row, m))

    def test_each_m_and_part_of_a_rare_from(self):
        right = 0
        for book, web in made_pairs(60, most_points=4):
            for part in lots(web.points)[1:]:
                row = rare_row(book, web, part, (1, 3))
                for m in (2, 3, 9, 40):
                    wanted = is_above(row, m)
                    self.assertIs(shows_from(book, web, (1, 3), RareFrom(m, list(part))), wanted)
                    right += wanted and plain_weight(book, web, part) < 0
        self.assertGreater(right, 50)

    def test_what_the_functions_return(self):
        for book, web in made_pairs(60, most_points=4):
            word = comes(book, web).word
            if word != "onbreak":
                call = sure_from if word == "comes" else rare_from
                told = call(book, web, [3, 4])
                self.assertIs(shows_from(book, web, (3, 4), told), True)
                self.assertIs(shows_from(book, web, [3, 4], type(told)(told.m + 10 ** 59, *told.parts[1:])), True)

    def test_whether_or_not_the_web_comes(self):
        self.assertIs(shows_from(EVEN, Web.all_tied(3), (1, 100), SureFrom(9)), True)
        self.assertIs(shows_from(EVEN, Web.all_tied(3), (99, 100), SureFrom(10 ** 59)), False)
        self.assertIs(shows_from(EVEN, Web.all_tied(3), (99, 100), RareFrom(2, (0, 1, 2))), True)
        self.assertIs(shows_from(EVEN, Web([0, 0]), HALF, RareFrom(2, (0, 1))), False)

    def test_bent_numbers_and_parts(self):
        self.assertIs(shows_from(EVEN, TIE, HALF, SureFrom(3)), True)
        for m in STRANGE + (1, 0, -3, 3.0, (3,), [3], 2, "3"):
            self.assertIs(shows_from(EVEN, TIE, HALF, SureFrom(m)), False)
            self.assertIs(shows_from(THIN, TIE, (1, 10), RareFrom(m, (0, 1))), False)
        self.assertIs(shows_from(THIN, TIE, (1, 10), RareFrom(4, (0, 1))), True)
        for part in STRANGE + ((1, 0), (0, 0, 1), (0, 1, 2), (), (0, True), (0, 1.0), ((0, 1),), (-1, 0, 1)):
            self.assertIs(shows_from(THIN, TIE, (1, 10), RareFrom(4, part)), False)

    def test_values_of_any_kind(self):
        others = (Paper("surefrom", 3), Paper("rarefrom", 4, (0, 1)), SureFrom, 3, (3,), "surefrom", Rare((0, 1)))
        for value in STRANGE + others + strangers(SureFrom(3)):
            self.assertIs(shows_from(EVEN, TIE, HALF, value), False)
        for value in others + strangers(RareFrom(4, (0, 1))):
            self.assertIs(shows_from(THIN, TIE, (1, 10), value), False)
        self.assertIs(shows_from(value=SureFrom(3), share=HALF, web=TIE, book=EVEN), True)

    def test_six_points(self):
        for m in (3, 1, None):
            self.refused(TooMany("points", 5), shows_from, EVEN, SIX, HALF, SureFrom(m))
        self.assertIs(shows_from(EVEN, SIX, HALF, RareFrom(2, (0, 1, 2, 3, 4, 5))), False)
        self.assertIs(shows_from(THIN, SIX, HALF, RareFrom(9, (0, 1, 2, 3, 4, 5))), True)
        self.assertIs(shows_from(EVEN, SIX, HALF, strangers(SureFrom(3))[0]), False)

    def test_great_numbers(self):
        wishes = [(one, two, sort) for sort in range(4) for two in range(5) for one in range(two)]
        book, web = Book([12], [(0, 0, 24)] * 4), Web([0] * 5, wishes[:15])
        for share in ((1, GREAT), (GREAT - 1, GREAT)):
            self.quick(shows_from, book, web, share, SureFrom(GREAT))
            self.assertIs(self.quick(shows_from, book, web, share, RareFrom(GREAT, (0, 1, 2, 3, 4))), True)

    def test_errors_in_their_order(self):
        for value in STRANGE + (TIE,):
            self.refused(BadBook("book"), shows_from, value, value, value, value)
        for value in STRANGE + (EVEN,):
            self.refused(BadWeb("web"), shows_from, EVEN, value, 7, SureFrom(2))
        for value in STRANGE + BAD_SHARES:
            self.refused(BadRatio("share"), shows_from, EVEN, UNFIT, value, SureFrom(2))
        for value in (SureFrom(2), RareFrom(2, (0,)), None):
            self.refused(Misfit("book"), shows_from, EVEN, Web.way(5, 1), HALF, value)


if __name__ == "__main__":
    unittest.main()
