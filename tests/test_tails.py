"""Tails, bounds for all placings at once, and which papers about them are right."""

import math
import unittest
from fractions import Fraction

from tests.asking import STRANGE, Asking, strangers
from tests.making import greatest_webs
from tests.test_placings import shuffled_cases
from thincoins.books import Book
from thincoins.check_tails import shows_terms
from thincoins.errors import BadBook, BadLot, BadNumber, BadRatio, BadWeb, Misfit, NoPoint, Twice
from thincoins.papers import Denial, Paper
from thincoins.placings import Sums, lack, many_placings, sums
from thincoins.tails import Below, NotBelow, lacks_at_most, tail, terms_for
from thincoins.webs import Web

FOUR, TWO = Book([2], [(0, 0, 1)]), Book([1], [(0, 0, 1)])
TIED, THREE = Web.way(1), Web.all_tied(3)
UNFIT = Web([0, 0], [(0, 1, 1)])
GREAT = 10 ** 60 - 1
SHARE = (3, 4)
BAD_SHARES = ((0, 1), (1, 1), (2, 1), (-1, 2), (2, 4), (1, 0), (-1, -2), (1,), (1, 2, 3), (True, 2), (1, 2.0), 1, [])
BAD_TERMS = (-1, 21, 10 ** 59, [1], 3.0)


def plain_tail(x, terms):
    """1 by the sum, term by term."""
    return 1 / sum(Fraction(*x) ** at / math.factorial(at) for at in range(terms + 1))


def plain_bound(book, web, names, m, terms):
    """The bound, as its words tell."""
    many, told = many_placings(book, web, names, m), sums(book, web, names, m)
    first, pairs = Fraction(*told.mean), Fraction(*told.pairs)
    if many == 0:
        return Fraction(0)
    if first == 0:
        return Fraction(1)
    if all(one in names and two in names for one, two, _ in web.ties):
        return Fraction(0)
    x = first * first / pairs
    return min(Fraction(1), many * plain_tail((x.numerator, x.denominator), terms))


def pair(value):
    """The ratio as a pair."""
    return (value.numerator, value.denominator)


class TestTail(Asking):
    def test_term_by_term(self):
        for x in ((0, 1), (1, 1), (1, 2), (7, 1), (24, 5), (5, 24), (100, 3)):
            for terms in range(21):
                self.exactly(tail(x, terms), pair(plain_tail(x, terms)))
                self.exactly(tail(list(x), terms), tail(x, terms))

    def test_known(self):
        self.exactly(tail(terms=1, x=(1, 2)), (2, 3))
        self.exactly(tail((0, 1), 20), (1, 1))
        self.exactly(tail((GREAT, 1), 0), (1, 1))
        self.exactly(tail((GREAT, 1), 1), (1, GREAT + 1))
        for x in ((GREAT, GREAT - 1), (1, GREAT), (GREAT, 1)):
            self.exactly(self.quick(tail, x, 20), pair(plain_tail(x, 20)))

    def test_refused(self):
        for value in STRANGE + ((-1, 2), (2, 4), (1, 0), (0, 2), (1,), (1, 2, 3), (True, 2), (1, 2.0), 1, []):
            self.refused(BadRatio("x"), tail, value, value)
        for value in STRANGE + BAD_TERMS:
            self.refused(BadNumber("terms"), tail, (1, 2), value)


class TestLacksAtMost(Asking):
    def test_as_its_words_tell(self):
        for book, web, names, m in shuffled_cases(40, seed=61):
            for terms in (0, 1, 2, 7, 20):
                self.exactly(lacks_at_most(book, web, names, m, terms), pair(plain_bound(book, web, names, m, terms)))

    def test_the_chance_is_not_above(self):
        some = 0
        for book, web, names, m in shuffled_cases(60, seed=62):
            bound = Fraction(*lacks_at_most(book, web, names, m, 20))
            self.assertLessEqual(Fraction(*lack(book, web, names, m)), bound)
            some += 0 < bound < 1
        self.assertGreater(some, 20)

    def test_more_terms_never_grow_it(self):
        for m in (2, 5, 30, 1000):
            told = [Fraction(*lacks_at_most(FOUR, TIED, [0], m, terms)) for terms in range(21)]
            self.assertEqual(told, sorted(told, reverse=True))
            self.assertEqual(told[0], 1)

    def test_where_it_is_0_or_1(self):
        self.exactly(lacks_at_most(TWO, THREE, [0, 1, 2], 2, 5), (0, 1))
        self.exactly(lacks_at_most(TWO, THREE, [0, 1], 2, 5), (1, 1))
        self.exactly(lacks_at_most(TWO, THREE, [], 2, 5), (1, 1))
        self.exactly(lacks_at_most(TWO, TIED, [0, 1], 2, 5), (0, 1))
        self.exactly(lacks_at_most(TWO, Web([0, 0]), [0], 2, 0), (0, 1))
        self.exactly(lacks_at_most(TWO, Web([0, 0, 0]), [0], 2, 0), (1, 1))
        self.exactly(lacks_at_most(terms=3, m=5, names=[0], web=TIED, book=FOUR), (3125, 4469))

    def test_errors_in_their_order(self):
        for value in STRANGE + (THREE,):
            self.refused(BadBook("book"), lacks_at_most, value, value, value, value, value)
        for value in STRANGE + (FOUR,):
            self.refused(BadWeb("web"), lacks_at_most, FOUR, value, 7, 1, -1)
        for value in STRANGE + (0, THREE):
            self.refused(BadLot("names"), lacks_at_most, FOUR, UNFIT, value, 1, -1)
        for value in STRANGE + (2, -1, [0]):
            self.refused(NoPoint(value), lacks_at_most, FOUR, UNFIT, [1, 1, value], 1, -1)
        self.refused(Twice(1), lacks_at_most, FOUR, UNFIT, [1, 1], 1, -1)
        for value in STRANGE + (1, 0, -2, 1001, [2]):
            self.refused(BadNumber("m"), lacks_at_most, FOUR, UNFIT, [1], value, -1)
        for value in STRANGE + BAD_TERMS:
            self.refused(BadNumber("terms"), lacks_at_most, FOUR, UNFIT, [1], 1000, value)
        self.refused(Misfit("book"), lacks_at_most, FOUR, UNFIT, [1], 2, 20)


class TestTermsFor(Asking):
    def test_the_fewest_terms(self):
        words = []
        for book, web, names, m in shuffled_cases(30, seed=63):
            for share in (SHARE, (1, 10), (1, GREAT)):
                told = terms_for(book, web, names, m, share)
                bounds = [plain_bound(book, web, names, m, terms) for terms in range(21)]
                fit = [terms for terms in range(21) if bounds[terms] < Fraction(*share)]
                self.exactly(told, Below(fit[0], pair(bounds[fit[0]])) if fit else NotBelow(pair(bounds[20])))
                words.append((told.word, fit[:1]))
        self.assertGreater(min(words.count(word) for word in (("below", [0]), ("notbelow", []))), 20)
        self.assertTrue(any(fit and fit[0] > 0 for _, fit in words))

    def test_known(self):
        self.exactly(terms_for(share=[3, 4], m=5, names=[0], web=TIED, book=FOUR), Below(3, [3125, 4469]))
        self.exactly(terms_for(FOUR, THREE, [0], 2, (1, 2)), NotBelow((1, 1)))
        self.exactly(terms_for(TWO, TIED, [1, 0], 2, (1, GREAT)), Below(0, (0, 1)))
        # The bound must be below the share, not just as great.
        self.exactly(terms_for(FOUR, TIED, [0], 5, (3125, 4469)).terms, 4)
        far = terms_for(FOUR, TIED, [0], 30, (1, 10 ** 8))
        self.exactly((far.word, far.bound), ("below", lacks_at_most(FOUR, TIED, [0], 30, far.terms)))
        last = lacks_at_most(FOUR, TIED, [0], 5, 20)
        self.exactly(terms_for(FOUR, TIED, [0], 5, last), NotBelow(last))

    def test_greatest_webs(self):
        for book, web in greatest_webs():
            for names in ([], [5], [3, 0]):
                for share in ((1, GREAT), (GREAT - 1, GREAT)):
                    told = self.quick(terms_for, book, web, names, 997, share)
                    self.assertIs(self.quick(shows_terms, book, web, names, 997, share, told), True)


class TestShowsTerms(Asking):
    def test_any_number_of_terms_that_will_do(self):
        for terms in range(21):
            bound = lacks_at_most(FOUR, TIED, [0], 5, terms)
            wanted = terms >= 3
            self.assertIs(shows_terms(FOUR, TIED, [0], 5, SHARE, Below(terms, list(bound))), wanted)
            self.assertIs(shows_terms(FOUR, TIED, [0], 5, SHARE, Below(terms + 1, bound)), False)
            self.assertIs(shows_terms(FOUR, TIED, [0], 5, SHARE, NotBelow(bound)), False)
            self.assertIs(shows_terms(FOUR, TIED, [0], 5, bound if terms > 2 else SHARE, Below(terms, bound)), False)

    def test_not_below(self):
        last = lacks_at_most(FOUR, TIED, [0], 5, 20)
        self.assertIs(shows_terms(FOUR, TIED, [0], 5, last, NotBelow(last)), True)
        self.assertIs(shows_terms(FOUR, TIED, [0], 5, (1, 100), NotBelow(list(last))), True)
        self.assertIs(shows_terms(FOUR, TIED, [0], 5, (1, 100), NotBelow(lacks_at_most(FOUR, TIED, [0], 5, 19))), False)
        self.assertIs(shows_terms(FOUR, TIED, [0], 5, SHARE, NotBelow(last)), False)
        self.assertIs(shows_terms(FOUR, THREE, [0], 2, SHARE, NotBelow((1, 1))), True)
        for bound in ((True, 1), (1, True), (1.0, 1), (2, 2), (1,), (1, 1, 1), None, 1, "11", ()):
            self.assertIs(shows_terms(FOUR, THREE, [0], 2, SHARE, NotBelow(bound)), False)

    def test_bent_papers(self):
        bound = (3125, 4469)
        for terms in STRANGE + (-1, 21, 2, 4, 3.0, "3", (3,), 10 ** 59):
            self.assertIs(shows_terms(FOUR, TIED, [0], 5, SHARE, Below(terms, bound)), False)
        for bent in ((6250, 8938), (3124, 4469), (3125,), (3125.0, 4469), "3", None, 3, (), (-3125, -4469), (bound,)):
            self.assertIs(shows_terms(FOUR, TIED, [0], 5, SHARE, Below(3, bent)), False)
        self.assertIs(shows_terms(TWO, TIED, [0, 1], 2, SHARE, Below(0, (0, 1))), True)
        self.assertIs(shows_terms(TWO, TIED, [0, 1], 2, SHARE, Below(20, (0, 1))), True)
        for told in ((False, (0, 1)), (0, (False, 1)), (0, (0, True)), (0, (0, 2)), (21, (0, 1)), (-1, (0, 1))):
            self.assertIs(shows_terms(TWO, TIED, [0, 1], 2, SHARE, Below(*told)), False)

    def test_values_of_any_kind(self):
        right, other = Below(3, (3125, 4469)), NotBelow((1, 1))
        others = (Paper("below", *right.parts), right.parts, Below, "below", 3, Sums(3, (3125, 4469)), Denial("notbelow", (1, 1)))
        for value in STRANGE + others + strangers(right):
            self.assertIs(shows_terms(FOUR, TIED, [0], 5, SHARE, value), False)
        for value in others + strangers(other):
            self.assertIs(shows_terms(FOUR, THREE, [0], 2, SHARE, value), False)
        self.assertIs(shows_terms(value=right, share=SHARE, m=5, names=(0,), web=TIED, book=FOUR), True)


class TestRefused(Asking):
    def test_errors_in_their_order(self):
        for call, more in ((terms_for, ()), (shows_terms, (Below(0, (0, 1)),)), (shows_terms, (None,))):
            for value in STRANGE + (THREE,):
                self.refused(BadBook("book"), call, value, value, value, value, value, *more)
            for value in STRANGE + (FOUR,):
                self.refused(BadWeb("web"), call, FOUR, value, 7, 1, 1, *more)
            for value in STRANGE + (0, THREE):
                self.refused(BadLot("names"), call, FOUR, UNFIT, value, 1, 1, *more)
            for value in STRANGE + (2, -1, [0]):
                self.refused(NoPoint(value), call, FOUR, UNFIT, [1, 1, value], 1, 1, *more)
            self.refused(Twice(1), call, FOUR, UNFIT, [1, 1], 1, 1, *more)
            for value in STRANGE + (1, 0, -2, 1001, [2]):
                self.refused(BadNumber("m"), call, FOUR, UNFIT, [1], value, 1, *more)
            for value in STRANGE + BAD_SHARES:
                self.refused(BadRatio("share"), call, FOUR, UNFIT, [1], 1000, value, *more)
            self.refused(Misfit("book"), call, FOUR, UNFIT, [1], 2, SHARE, *more)


if __name__ == "__main__":
    unittest.main()
