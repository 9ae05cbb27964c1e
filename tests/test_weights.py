"""Weights of points, and the lots with the least one."""

import itertools
import unittest

from tests.asking import STRANGE, Asking
from tests.making import greatest_webs, lots, made_pairs, plain_weight
from thincoins.books import Book
from thincoins.errors import BadBook, BadLot, BadWeb, Misfit, NoPoint, Twice
from thincoins.webs import Web
from thincoins.weights import least_parts, weight

BOOK = Book([5, 3], [(0, 1, 2), (0, 0, 4)])
WEB = Web([0, 1, 0], [(0, 1, 0), (0, 2, 1)])
UNFIT = Web([0, 0], [(0, 1, 0)])


class TestWeight(Asking):
    def test_known_weights(self):
        self.exactly(weight(BOOK, WEB), 5 + 3 + 5 - 2 - 4)
        self.exactly(weight(BOOK, WEB, None), 7)
        self.exactly(weight(BOOK, WEB, []), 0)
        self.exactly(weight(BOOK, WEB, ()), 0)
        self.exactly(weight(BOOK, WEB, [2, 0]), 6)
        self.exactly(weight(BOOK, WEB, (1, 2)), 8)
        self.exactly(weight(part=[0], web=WEB, book=BOOK), 5)
        self.exactly(weight(Book([1], [(0, 0, 24)]), Web.all_tied(6)), 6 - 15 * 24)

    def test_every_lot_in_every_order(self):
        for book, web in made_pairs(25, most_points=4):
            for lot in lots(web.points):
                for order in itertools.permutations(lot):
                    self.exactly(weight(book, web, list(order)), plain_weight(book, web, lot))

    def test_errors_in_their_order(self):
        for value in STRANGE + (WEB, "2 : -"):
            self.refused(BadBook("book"), weight, value, value, value)
        for value in STRANGE + (BOOK, "0 : -"):
            self.refused(BadWeb("web"), weight, BOOK, value, 7)
        for value in STRANGE[1:] + (0, 1):
            self.refused(BadLot("part"), weight, BOOK, UNFIT, value)
        for value in STRANGE + (2, -1, [0]):
            self.refused(NoPoint(value), weight, BOOK, UNFIT, [1, 1, value])
        self.refused(Twice(1), weight, BOOK, UNFIT, [0, 1, 1])
        for part in (None, [], [0], (1, 0)):
            self.refused(Misfit("book"), weight, BOOK, UNFIT, part)
        self.refused(Misfit("book"), weight, BOOK, UNFIT)


class TestLeastParts(Asking):
    def test_known_lots(self):
        even = Book([1], [(0, 0, 1)])
        self.exactly(least_parts(even, Web.way(3)), (0, (), ()))
        self.exactly(least_parts(even, Web.all_tied(4)), (-2, (0, 1, 2, 3), (0, 1, 2, 3)))
        book = Book([1], [(0, 0, 2)])
        self.exactly(least_parts(book, Web([0] * 3, [(0, 1, 0)])), (0, (), (0, 1)))
        twice = Web([0] * 6, [(0, 1, 0), (2, 3, 0), (2, 3, 1), (4, 5, 0)])
        self.exactly(least_parts(Book([1], [(0, 0, 2), (0, 0, 1)]), twice), (-1, (2, 3), (0, 1, 2, 3, 4, 5)))

    def test_all_lots_of_least_weight_lie_between(self):
        for book, web in made_pairs(150):
            found, least, greatest = least_parts(book, web)
            rows = {lot: plain_weight(book, web, lot) for lot in lots(web.points)}
            self.exactly(found, min(rows.values()))
            self.exactly((rows[least], rows[greatest]), (found, found))
            for lot, its in rows.items():
                if its == found:
                    self.assertTrue(set(least) <= set(lot) <= set(greatest))

    def test_refused(self):
        for value in STRANGE + (WEB,):
            self.refused(BadBook("book"), least_parts, value, value)
        for value in STRANGE + (BOOK,):
            self.refused(BadWeb("web"), least_parts, BOOK, value)
        self.refused(Misfit("book"), least_parts, BOOK, UNFIT)
        self.refused(Misfit("book"), least_parts, BOOK, Web([2]))
        self.refused(Misfit("book"), least_parts, BOOK, Web([0, 0], [(0, 1, 2)]))

    def test_the_greatest_webs(self):
        for book, web in greatest_webs():
            found = self.quick(least_parts, book, web)[0]
            self.exactly(found, min(plain_weight(book, web, lot) for lot in lots(6)))
            self.exactly(self.quick(weight, book, web), plain_weight(book, web, range(6)))


if __name__ == "__main__":
    unittest.main()
