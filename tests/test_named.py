"""Webs round names: weights beside them, everywhere, seldom, on a break, and the hull."""

import itertools
import unittest

from tests.asking import STRANGE, Asking
from tests.making import greatest_webs, lots, made_pairs, plain_weight
from thincoins.books import Book
from thincoins.errors import BadBook, BadLot, BadWeb, Misfit, NoPoint, Twice
from thincoins.handings import comes
from thincoins.hulls import Hull, hull
from thincoins.named import Everywhere, NamesBreak, Seldom, bare, beside, everywhere
from thincoins.webs import Web

BOOK, SMALL = Book([11], [(0, 0, 7)]), Book([2], [(0, 0, 1)])
THREE, FOUR = Web.all_tied(3), Web.all_tied(4)
UNFIT = Web([0, 0], [(0, 1, 1)])


def weight_beside(book, web, names, lot):
    """The sizes of the lot, less the thinnesses of ties from it to itself or to a name."""
    total = sum(book.sizes[web.kinds[point]] for point in lot)
    for one, two, sort in web.ties:
        ends = {one, two}
        if ends & set(lot) and ends <= set(lot) | set(names):
            total -= book.sorts[sort][2]
    return total


def rows_beside(book, web, names):
    """The weights beside the names of all lots of points without one, in order."""
    free = [point for point in range(web.points) if point not in names]
    found = [lot for lot in lots(web.points) if set(lot) <= set(free)]
    return {lot: weight_beside(book, web, names, lot) for lot in found}


def named_cases(many, **bounds):
    """Pairs of books and webs, each with all choices of names."""
    for book, web in made_pairs(many, **bounds):
        for names in lots(web.points):
            yield book, web, names


class TestBare(Asking):
    def test_without_the_ties_between_names(self):
        for book, web, names in named_cases(40):
            found = bare(web, list(names)[::-1])
            self.exactly(found.kinds, web.kinds)
            self.exactly(found.ties, tuple(tie for tie in web.ties if not {tie[0], tie[1]} <= set(names)))
        self.exactly(bare(names=(2, 0), web=THREE).ties, ((0, 1, 0), (1, 2, 0)))
        self.assertTrue(bare(THREE, []) == THREE)
        self.exactly(str(bare(THREE, [0, 1, 2])), "0 0 0 : -")

    def test_refused(self):
        for value in STRANGE + (BOOK,):
            self.refused(BadWeb("web"), bare, value, value)
        for value in STRANGE + (0, THREE):
            self.refused(BadLot("names"), bare, THREE, value)
        for value in STRANGE + (3, -1, [0]):
            self.refused(NoPoint(value), bare, THREE, [1, 1, value])
        self.refused(Twice(1), bare, THREE, (0, 2, 1, 1, 0))


class TestBeside(Asking):
    def test_every_part_and_names_in_every_order(self):
        for book, web, names in named_cases(25, most_points=4):
            for lot, wanted in rows_beside(book, web, names).items():
                for order in itertools.permutations(lot):
                    self.exactly(beside(book, web, list(names)[::-1], order), wanted)
        self.exactly(beside(part=[1], names=[0], web=THREE, book=BOOK), 4)

    def test_weights_beside_add_up(self):
        for book, web, names in named_cases(25, most_points=4):
            free = [point for point in range(web.points) if point not in names]
            for one in lots(len(free)):
                first = [free[at] for at in one]
                rest = [point for point in free if point not in first]
                both = beside(book, web, names, first) + beside(book, web, list(names) + first, rest)
                self.exactly(beside(book, web, names, free), both)

    def test_none(self):
        self.exactly(beside(BOOK, THREE, [0, 1, 2], []), 0)
        self.exactly(beside(BOOK, THREE, [], ()), 0)
        self.exactly(beside(BOOK, THREE, [], [0, 2]), 15)

    def test_errors_in_their_order(self):
        for value in STRANGE + (THREE,):
            self.refused(BadBook("book"), beside, value, value, value, value)
        for value in STRANGE + (BOOK,):
            self.refused(BadWeb("web"), beside, BOOK, value, 7, 7)
        for value in STRANGE + (0, THREE):
            self.refused(BadLot("names"), beside, BOOK, UNFIT, value, 7)
            self.refused(BadLot("part"), beside, BOOK, UNFIT, [1], value)
        for value in STRANGE + (2, -1, [0]):
            self.refused(NoPoint(value), beside, BOOK, UNFIT, [1, 1, value], 7)
            self.refused(NoPoint(value), beside, BOOK, UNFIT, [1], [1, 1, value])
        self.refused(Twice(1), beside, BOOK, UNFIT, [1, 1], [5])
        self.refused(Twice(0), beside, BOOK, UNFIT, [1], [1, 0, 0, 1])
        self.refused(Misfit("book"), beside, BOOK, UNFIT, [1], [1])
        self.refused(Misfit("part"), beside, BOOK, THREE, [1, 0], [2, 0])
        self.refused(Misfit("part"), beside, BOOK, THREE, [0], [0])


class TestEverywhere(Asking):
    def is_handing(self, book, web, names, handing):
        """Nothing between names and to names, all else handed out, and no point above its room."""
        free = web.points - len(names)
        self.assertEqual(len(handing), len(web.ties))
        got = [0] * web.points
        for (one, two, sort), pair in zip(web.ties, handing):
            self.assertEqual([type(number) for number in pair], [int, int])
            self.assertGreaterEqual(min(pair), 0)
            inside = one in names and two in names
            self.assertEqual(sum(pair), 0 if inside else free * book.sorts[sort][2])
            got[one] += pair[0]
            got[two] += pair[1]
        for point, kind in enumerate(web.kinds):
            self.assertLessEqual(got[point], 0 if point in names else free * book.sizes[kind] - 1)

    def right(self, book, web, names):
        """The paper is the one that the weights beside the names ask for."""
        paper = everywhere(book, web, list(names)[::-1])
        self.assertEqual(paper, everywhere(book, web, names))
        weights = rows_beside(book, web, names)
        least = min(weights.values())
        level = [lot for lot, weight in weights.items() if weight == 0 and lot]
        if least < 0:
            within = set.intersection(*[set(lot) for lot, weight in weights.items() if weight == least])
            self.exactly(paper, Seldom(sorted(within)))
        elif level:
            self.exactly(paper, NamesBreak(level[0]))
        else:
            self.exactly(type(paper), Everywhere)
            self.is_handing(book, web, names, paper.handing)
        return paper.word

    def test_all_names_of_all_kinds_of_webs(self):
        words = [self.right(*case) for case in named_cases(120)]
        self.assertGreater(min(words.count(word) for word in ("everywhere", "seldom", "namesbreak")), 50)

    def test_none_named(self):
        for book, web in made_pairs(80):
            told, paper = comes(book, web), everywhere(book, web, [])
            self.exactly((bool(paper), paper.parts), (bool(told), told.parts))

    def test_all_named(self):
        for book, web in made_pairs(40):
            names = list(range(web.points))[::-1]
            self.exactly(everywhere(book, web, names), Everywhere([(0, 0)] * len(web.ties)))

    def test_ties_between_names_play_no_part(self):
        for book, web, names in named_cases(40):
            self.exactly(everywhere(book, web, names).word, everywhere(book, bare(web, names), names).word)
            self.exactly(hull(book, web, names), hull(book, bare(web, names), names))

    def test_known(self):
        self.exactly(everywhere(names=[0], web=THREE, book=BOOK).word, "everywhere")
        self.exactly(everywhere(BOOK, THREE, [1, 0]), Seldom((2,)))
        self.exactly(everywhere(BOOK, FOUR, (0,)), Seldom((1, 2, 3)))
        self.exactly(everywhere(SMALL, THREE, [0, 1]), NamesBreak((2,)))
        two = Web([0] * 4, [(0, 2, 0), (1, 2, 0), (0, 3, 0), (1, 3, 0)])
        self.exactly(everywhere(SMALL, two, [1, 0]), NamesBreak((2,)))
        heavy = Web([0] * 5, [(0, 1, 0), (0, 2, 0), (1, 2, 0), (3, 4, 0)])
        self.exactly(everywhere(Book([1], [(0, 0, 1)]), heavy, [3]), NamesBreak((4,)))

    def test_greatest_webs(self):
        for book, web in greatest_webs():
            for names in ([], [5], [0, 3], [4, 2, 1], [0, 1, 2, 3, 4, 5]):
                self.right(book, web, names)
                self.quick(everywhere, book, web, names)


class TestHull(Asking):
    def test_as_all_lots_tell(self):
        for book, web, names in named_cases(120):
            paper = hull(book, web, list(names)[::-1])
            weights = rows_beside(book, web, names)
            least = min(weights.values())
            found = [set(lot) for lot, weight in weights.items() if weight == least]
            within, around = set.intersection(*found), set.union(*found)
            self.exactly(paper, Hull(sorted(within), least, sorted(around)))
            self.exactly((paper.part, paper.weight, paper.greatest), paper.parts)
            self.assertTrue(within in found and around in found)

    def test_known(self):
        tail = Web([0] * 4, [(0, 2, 0), (1, 2, 0), (2, 3, 0)])
        self.exactly(hull(names=[1, 0], web=tail, book=BOOK).parts, ((2,), -3, (2,)))
        self.exactly(hull(BOOK, THREE, [0, 1, 2]).parts, ((), 0, ()))
        self.exactly(hull(SMALL, THREE, [0, 1]).parts, ((), 0, (2,)))
        self.exactly(hull(BOOK, Web.all_tied(5), []).parts, ((0, 1, 2, 3, 4), -15, (0, 1, 2, 3, 4)))

    def test_beyond_the_hull_it_is_everywhere(self):
        for book, web, names in named_cases(60):
            paper = hull(book, web, names)
            if paper.part == paper.greatest:
                self.assertIs(bool(everywhere(book, web, names + paper.part)), True)

    def test_greatest_webs(self):
        for book, web in greatest_webs():
            for names in ([], [5], [0, 3]):
                paper = self.quick(hull, book, web, names)
                self.exactly(paper.weight, plain_weight(book, web, list(paper.part) + names) - plain_weight(book, web, names))


class TestRefused(Asking):
    def test_errors_in_their_order(self):
        for call in (everywhere, hull):
            for value in STRANGE + (THREE,):
                self.refused(BadBook("book"), call, value, value, value)
            for value in STRANGE + (BOOK,):
                self.refused(BadWeb("web"), call, BOOK, value, 7)
            for value in STRANGE + (0, THREE):
                self.refused(BadLot("names"), call, BOOK, UNFIT, value)
            for value in STRANGE + (2, -1, [0]):
                self.refused(NoPoint(value), call, BOOK, UNFIT, [1, 1, value])
            self.refused(Twice(1), call, BOOK, UNFIT, [0, 1, 1, 0])
            for names in ([], [0], (1, 0)):
                self.refused(Misfit("book"), call, BOOK, UNFIT, names)


if __name__ == "__main__":
    unittest.main()
