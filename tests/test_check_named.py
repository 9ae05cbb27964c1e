"""The steps to the hull, and which papers about names are right."""

import unittest

from tests.asking import STRANGE, Asking, strangers
from tests.making import greatest_webs, lots
from tests.test_named import named_cases, rows_beside
from thincoins.books import Book
from thincoins.chains import chain
from thincoins.check_named import shows_everywhere, shows_hull
from thincoins.errors import BadBook, BadLot, BadWeb, Misfit, NoPoint, Twice
from thincoins.handings import Comes, OnBreak, Rare
from thincoins.hulls import Hull, hull
from thincoins.named import Everywhere, NamesBreak, Seldom, everywhere
from thincoins.papers import Denial, Paper
from thincoins.webs import Web

BOOK, SMALL = Book([11], [(0, 0, 7)]), Book([2], [(0, 0, 1)])
THREE = Web.all_tied(3)
TWO = Web([0, 0, 0, 0], [(0, 2, 0), (1, 2, 0), (0, 3, 0), (2, 3, 0)])
UNFIT = Web([0, 0], [(0, 1, 1)])
CUT = ((0, 14), (0, 14), (7, 7))


class TestChain(Asking):
    def test_each_step_is_the_first_heavy_part(self):
        lengths = []
        for book, web, names in named_cases(150):
            steps = chain(book, web, list(names)[::-1])
            there = list(names)
            for step in steps:
                heavy = [lot for lot, weight in rows_beside(book, web, there).items() if weight < 0]
                self.exactly(step, heavy[0])
                there += step
            self.assertTrue(all(weight >= 0 for weight in rows_beside(book, web, there).values()))
            joined = tuple(sorted(point for step in steps for point in step))
            self.exactly(joined, hull(book, web, names).part)
            lengths.append(len(steps))
        self.assertTrue({0, 1, 2, 3} <= set(lengths))

    def test_known(self):
        self.exactly(chain(names=[1, 0], web=TWO, book=BOOK), ((2,), (3,)))
        self.exactly(chain(BOOK, Web.all_tied(4), [3]), ((0, 1, 2),))
        self.exactly(chain(BOOK, THREE, [0]), ())
        self.exactly(chain(BOOK, THREE, [2, 1, 0]), ())
        self.exactly(chain(BOOK, THREE, []), ())
        self.exactly(chain(SMALL, THREE, [0, 1]), ())
        self.exactly(chain(Book([1], [(0, 0, 3)]), Web([0] * 4, [(0, 1, 0), (2, 3, 0)]), [3]), ((2,), (0, 1)))

    def test_greatest_webs(self):
        for book, web in greatest_webs():
            for names in ([], [5], [0, 3]):
                self.quick(chain, book, web, names)

    def test_errors_in_their_order(self):
        for value in STRANGE + (THREE,):
            self.refused(BadBook("book"), chain, value, value, value)
        for value in STRANGE + (BOOK,):
            self.refused(BadWeb("web"), chain, BOOK, value, 7)
        for value in STRANGE + (0, THREE):
            self.refused(BadLot("names"), chain, BOOK, UNFIT, value)
        for value in STRANGE + (2, -1, [0]):
            self.refused(NoPoint(value), chain, BOOK, UNFIT, [1, 1, value])
        self.refused(Twice(1), chain, BOOK, UNFIT, [1, 0, 1])
        self.refused(Misfit("book"), chain, BOOK, UNFIT, [1])


class TestShowsEverywhere(Asking):
    def test_what_the_function_returns(self):
        for book, web, names in named_cases(60):
            self.assertIs(shows_everywhere(book, web, list(names)[::-1], everywhere(book, web, names)), True)

    def test_each_part(self):
        for book, web, names in named_cases(40, most_points=4):
            weights = rows_beside(book, web, names)
            heavy = min(weights.values()) < 0
            for lot in lots(web.points):
                weight = weights.get(lot) if lot else None
                is_heavy = weight is not None and weight < 0
                self.assertIs(shows_everywhere(book, web, names, Seldom(list(lot))), is_heavy)
                self.assertIs(shows_everywhere(book, web, names, NamesBreak(lot)), weight == 0 and not heavy)

    def test_any_handing(self):
        self.assertIs(shows_everywhere(BOOK, THREE, [0], Everywhere(CUT)), True)
        self.assertIs(shows_everywhere(BOOK, THREE, (0,), Everywhere([list(pair) for pair in CUT])), True)
        self.assertIs(shows_everywhere(value=Everywhere(CUT), names=[0], web=THREE, book=BOOK), True)
        self.assertIs(shows_everywhere(BOOK, THREE, [2, 0, 1], Everywhere([(0, 0)] * 3)), True)
        self.assertIs(shows_everywhere(BOOK, Web([0]), [], Everywhere([])), True)

    def test_bent_handings(self):
        pairs = (
            (14, 0), (1, 13), (0, 13), (0, 15), (-1, 15), (0, 14.0), (False, 14), (0, 14, 0), (14,), (), None, 14, "14",
            (0, 0), (7, 7),
        )
        for pair in pairs:
            self.assertIs(shows_everywhere(BOOK, THREE, [0], Everywhere((pair,) + CUT[1:])), False)
        for pair in ((8, 6), (6, 8), (14, 0), (0, 0), (7, 6), (True, 13), None):
            self.assertIs(shows_everywhere(BOOK, THREE, [0], Everywhere(CUT[:2] + (pair,))), False)
        for handing in (CUT[:2], CUT + ((0, 0),), (), (CUT,), {}, None, 7):
            self.assertIs(shows_everywhere(BOOK, THREE, [0], Everywhere(handing)), False)
        for pair in ((1, 0), (0, 1), (0, 7), (False, False)):
            self.assertIs(shows_everywhere(BOOK, THREE, [0, 1, 2], Everywhere([pair, (0, 0), (0, 0)])), False)

    def test_no_handing_on_a_break(self):
        self.assertIs(shows_everywhere(SMALL, THREE, [0, 1], Everywhere([(0, 0), (0, 1), (0, 1)])), False)
        self.assertIs(shows_everywhere(SMALL, THREE, [0, 1], NamesBreak([2])), True)

    def test_bent_parts(self):
        self.assertIs(shows_everywhere(BOOK, TWO, [0, 1], Seldom([2, 3])), True)
        for part in STRANGE + ((3, 2), (2, 2, 3), (2, 3, 4), (2, True), (2, 3.0), (), ((2,),), (0, 2), (1, 2, 3), (0, 1, 2, 3), 2):
            self.assertIs(shows_everywhere(BOOK, TWO, [0, 1], Seldom(part)), False)
            self.assertIs(shows_everywhere(SMALL, THREE, [0, 1], NamesBreak(part)), False)
        self.assertIs(shows_everywhere(BOOK, TWO, [0, 1], NamesBreak((2,))), False)

    def test_values_of_any_kind(self):
        others = (Paper("everywhere", CUT), Comes(CUT), Everywhere, CUT, "everywhere", 7)
        for value in STRANGE + others + strangers(Everywhere(CUT)):
            self.assertIs(shows_everywhere(BOOK, THREE, [0], value), False)
        for value in (Denial("seldom", (2,)), Rare((2,)), (2,)) + strangers(Seldom((2,))):
            self.assertIs(shows_everywhere(BOOK, THREE, [0, 1], value), False)
        for value in (Denial("namesbreak", (2,)), OnBreak((2,)), (2,)) + strangers(NamesBreak((2,))):
            self.assertIs(shows_everywhere(SMALL, THREE, [0, 1], value), False)


class TestShowsHull(Asking):
    def test_just_the_hull(self):
        for book, web, names in named_cases(30, most_points=4):
            right = hull(book, web, names)
            part, weight, greatest = right.parts
            self.assertIs(shows_hull(book, web, list(names)[::-1], Hull(list(part), weight, list(greatest))), True)
            for lot in lots(web.points):
                self.assertIs(shows_hull(book, web, names, Hull(lot, weight, greatest)), lot == part)
                self.assertIs(shows_hull(book, web, names, Hull(part, weight, lot)), lot == greatest)
            for other in (weight - 1, weight + 1, float(weight), None, str(weight)):
                self.assertIs(shows_hull(book, web, names, Hull(part, other, greatest)), False)

    def test_bent_parts(self):
        right = hull(BOOK, TWO, [0, 1])
        self.exactly(right.parts, ((2, 3), -6, (2, 3)))
        for part in STRANGE + ((3, 2), (2,), (2, 3, 3), (2, 3.0), (), ((2, 3),), 23):
            self.assertIs(shows_hull(BOOK, TWO, [0, 1], Hull(part, -6, (2, 3))), False)
            self.assertIs(shows_hull(BOOK, TWO, [0, 1], Hull((2, 3), -6, part)), False)
        self.assertIs(shows_hull(BOOK, THREE, [0], Hull((), False, ())), False)
        self.assertIs(shows_hull(BOOK, THREE, [0], Hull((), 0, ())), True)
        light = Book([1], [(0, 0, 2)])
        self.assertIs(shows_hull(light, Web.way(1), [0], Hull((1,), -1, (1,))), True)
        self.assertIs(shows_hull(light, Web.way(1), [0], Hull((True,), -1, (1,))), False)

    def test_values_of_any_kind(self):
        right = hull(BOOK, TWO, [0, 1])
        others = (Paper("hull", *right.parts), right.parts, Hull, "hull", Seldom((2, 3)))
        for value in STRANGE + others + strangers(right):
            self.assertIs(shows_hull(BOOK, TWO, [0, 1], value), False)
        self.assertIs(shows_hull(value=right, names=[0, 1], web=TWO, book=BOOK), True)


class TestRefused(Asking):
    def test_errors_in_their_order(self):
        for call, right in ((shows_everywhere, Everywhere(())), (shows_hull, Hull((), 0, ()))):
            for told in (right, None):
                for value in STRANGE + (THREE,):
                    self.refused(BadBook("book"), call, value, value, value, told)
                for value in STRANGE + (BOOK,):
                    self.refused(BadWeb("web"), call, BOOK, value, 7, told)
                for value in STRANGE + (0, THREE):
                    self.refused(BadLot("names"), call, BOOK, UNFIT, value, told)
                for value in STRANGE + (2, -1, [0]):
                    self.refused(NoPoint(value), call, BOOK, UNFIT, [1, 1, value], told)
                self.refused(Twice(1), call, BOOK, UNFIT, [1, 0, 1], told)
                self.refused(Misfit("book"), call, BOOK, UNFIT, [1], told)

    def test_greatest_webs(self):
        for book, web in greatest_webs():
            for names in ([], [5], [0, 3]):
                self.assertIs(self.quick(shows_everywhere, book, web, names, everywhere(book, web, names)), True)
                self.assertIs(self.quick(shows_hull, book, web, names, hull(book, web, names)), True)


if __name__ == "__main__":
    unittest.main()
