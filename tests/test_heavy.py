"""Heavy parts without a heavy one within, and the fewest ties to strike."""

import itertools
import unittest

from tests.asking import STRANGE, Asking
from tests.making import greatest_webs, lots, made_pairs, plain_weight
from thincoins.books import Book
from thincoins.errors import BadBook, BadWeb, Misfit, TooMany
from thincoins.heavy import fewest_struck, heavy_parts
from thincoins.webs import Web

BOOK = Book([11], [(0, 0, 7)])
EVEN = Book([1], [(0, 0, 1)])


def does_come(book, web):
    """Whether all parts are light."""
    return all(plain_weight(book, web, lot) > 0 for lot in lots(web.points)[1:])


class TestHeavyParts(Asking):
    def test_known_parts(self):
        book = Book([1], [(0, 0, 3)])
        web = Web([0] * 4, [(2, 3, 0), (0, 3, 0), (0, 1, 0)])
        self.exactly(heavy_parts(book, web), ((0, 1), (0, 3), (2, 3)))
        two = Book([2], [(0, 0, 3), (0, 0, 5)])
        self.exactly(heavy_parts(two, Web([0] * 4, [(0, 1, 0), (1, 2, 0), (0, 2, 0), (2, 3, 1)])), ((2, 3), (0, 1, 2)))
        self.exactly(heavy_parts(EVEN, Web.ring(5)), ())
        self.exactly(heavy_parts(EVEN, Web([0])), ())

    def test_as_all_parts_tell(self):
        for book, web in made_pairs(200):
            heavy = [lot for lot in lots(web.points) if plain_weight(book, web, lot) < 0]
            wanted = [lot for lot in heavy if not any(set(other) < set(lot) for other in heavy)]
            self.exactly(heavy_parts(book, web), tuple(wanted))

    def test_the_greatest_webs(self):
        for book, web in greatest_webs():
            self.quick(heavy_parts, book, web)


class TestFewestStruck(Asking):
    def test_known_lots(self):
        self.exactly(fewest_struck(BOOK, Web.all_tied(5)), (0, 1, 2))
        self.exactly(fewest_struck(EVEN, Web.ring(4)), (0,))
        self.exactly(fewest_struck(EVEN, Web.way(4)), ())
        self.exactly(fewest_struck(EVEN, Web([0])), ())
        self.exactly(fewest_struck(web=Web.all_tied(3), book=Book([1], [(0, 0, 3)])), (0, 1, 2))
        self.exactly(fewest_struck(Book([1], [(0, 0, 2)]), Web.way(1)), (0,))

    def test_the_first_of_the_shortest(self):
        for book, web in made_pairs(80, most_points=4, most_ties=7):
            wanted = next(
                lot for size in range(len(web.ties) + 1)
                for lot in itertools.combinations(range(len(web.ties)), size) if does_come(book, web.without_ties(lot))
            )
            self.exactly(fewest_struck(book, web), wanted)

    def test_ten_and_eleven_ties(self):
        light = Book([12], [(0, 0, 1)])
        heavy = Book([1], [(0, 0, 24)])
        ten, eleven = Web.all_tied(6).without_ties([0, 1, 2, 3, 4]), Web.all_tied(6).without_ties([0, 1, 2, 3])
        self.exactly(self.quick(fewest_struck, light, ten), ())
        self.exactly(self.quick(fewest_struck, heavy, ten), tuple(range(10)))
        self.exactly(self.quick(fewest_struck, EVEN, Web.all_tied(5)), (0, 1, 2, 4, 5, 7))
        self.refused(TooMany("ties", 10), fewest_struck, light, eleven)
        self.refused(TooMany("ties", 10), fewest_struck, heavy, eleven)

    def test_refused(self):
        unfit = Web.all_tied(6, 0, 1)
        for call in (heavy_parts, fewest_struck):
            for value in STRANGE + (unfit, "2 : -"):
                self.refused(BadBook("book"), call, value, value)
            for value in STRANGE + (BOOK, "0 : -"):
                self.refused(BadWeb("web"), call, BOOK, value)
            self.refused(Misfit("book"), call, BOOK, unfit)


if __name__ == "__main__":
    unittest.main()
