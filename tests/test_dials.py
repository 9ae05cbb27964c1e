"""How thin one sort may be; which papers about it are right."""

import unittest
from fractions import Fraction

from tests.asking import STRANGE, Asking, strangers
from tests.making import greatest_webs, lots, made_pairs
from thincoins.books import Book
from thincoins.check_dials import shows_dial
from thincoins.dials import Any, Barred, Dial, comes_at, dial
from thincoins.errors import BadBook, BadRatio, BadWeb, Misfit, NoSort
from thincoins.handings import OnBreak
from thincoins.papers import Denial, Paper
from thincoins.webs import Web

PLAIN = Book([11], [(0, 0, 7)])
THREE, FOUR = Web.all_tied(3), Web.all_tied(4)
TAIL = Web([0, 0, 0, 0], [(0, 1, 0), (0, 3, 0), (1, 3, 0), (2, 3, 0)])
TWICE = Book([1, 2], [(0, 0, 2), (0, 1, 1)])
BENT = Web([0, 0, 1], [(0, 1, 0), (1, 2, 1)])
UNFIT = Web([0, 0], [(0, 1, 1)])


def weight_at(book, web, lot, sort, ratio):
    """The weight of the lot with this thinness of the sort."""
    total = Fraction(sum(book.sizes[web.kinds[point]] for point in lot))
    for one, two, its in web.ties:
        if one in lot and two in lot:
            total -= ratio if its == sort else book.sorts[its][2]
    return total


def count_and_rest(book, web, lot, sort):
    """How many ties of the sort the lot has, and its weight without them."""
    rest = weight_at(book, web, lot, sort, 0)
    return int(rest - weight_at(book, web, lot, sort, 1)), rest


def plain_dial(book, web, sort):
    """The dial, by each part."""
    rows = [(part,) + count_and_rest(book, web, part, sort) for part in lots(web.points)[1:]]
    barring = [part for part, _, rest in rows if rest <= 0]
    if barring:
        return Barred(barring[0])
    ratios = [(rest / many, part) for part, many, rest in rows if many]
    if not ratios:
        return Any()
    least = min(ratio for ratio, _ in ratios)
    first = [part for ratio, part in ratios if ratio == least][0]
    return Dial((least.numerator, least.denominator), first)


class TestDial(Asking):
    def test_as_all_parts_tell(self):
        words = []
        for book, web in made_pairs(250):
            for sort in range(len(book.sorts)):
                paper = dial(book, web, sort)
                self.assertEqual(paper, plain_dial(book, web, sort))
                self.assertTrue(shows_dial(book, web, sort, paper))
                words.append(paper.word)
        self.assertGreater(min(words.count(word) for word in ("dial", "any", "barred")), 20)

    def test_the_first_level_part(self):
        self.exactly(dial(PLAIN, TAIL, 0).parts, ((11, 1), (0, 1, 3)))
        even = Book([1], [(0, 0, 1)])
        self.exactly(dial(even, TAIL, 0).parts, ((1, 1), (0, 1, 3)))
        self.exactly(dial(PLAIN, Web([0] * 4, [(2, 3, 0), (0, 1, 0)]), 0).parts, ((22, 1), (0, 1)))

    def test_the_first_barring_part(self):
        self.assertEqual(dial(TWICE, BENT, 1), Barred((0, 1)))
        heavy = Book([1], [(0, 0, 3), (0, 0, 1)])
        self.assertEqual(dial(heavy, Web([0] * 4, [(2, 3, 0), (1, 3, 0), (0, 1, 1)]), 1), Barred((1, 3)))

    def test_any(self):
        self.assertEqual(dial(TWICE, Web([0, 1], [(0, 1, 1)]), 0), Any())
        self.assertEqual(dial(PLAIN, Web([0]), 0), Any())

    def test_errors_in_their_order(self):
        for value in STRANGE + (THREE, "2 : -"):
            self.refused(BadBook("book"), dial, value, value, value)
            self.refused(BadBook("book"), shows_dial, value, value, value, value)
        for value in STRANGE + (PLAIN, "0 : -"):
            self.refused(BadWeb("web"), dial, PLAIN, value, 9)
            self.refused(BadWeb("web"), shows_dial, PLAIN, value, 9, Any())
        for value in STRANGE + (1, -1, [0]):
            self.refused(NoSort(value), dial, PLAIN, UNFIT, value)
            self.refused(NoSort(value), shows_dial, PLAIN, UNFIT, value, Any())
        self.refused(Misfit("book"), dial, PLAIN, UNFIT, 0)
        self.refused(Misfit("book"), shows_dial, PLAIN, UNFIT, 0, Any())
        self.refused(NoSort(0), dial, Book([1]), Web([0]), 0)
        self.assertEqual(dial(sort=0, web=THREE, book=PLAIN), dial(PLAIN, THREE, 0))


class TestComesAt(Asking):
    def test_below_at_and_above_the_break(self):
        self.exactly([comes_at(PLAIN, FOUR, 0, told) for told in ((7, 1), (22, 3), (15, 2))], ["comes", "break", "rare"])
        great = 10 ** 59
        self.exactly(comes_at(PLAIN, FOUR, 0, [22 * great - 3, 3 * great]), "comes")
        self.exactly(comes_at(PLAIN, FOUR, 0, (22 * great + 1, 3 * great)), "rare")
        self.exactly(comes_at(ratio=(1, great), sort=0, web=FOUR, book=PLAIN), "comes")

    def test_as_all_parts_tell(self):
        for book, web in made_pairs(120):
            for told in ((1, 2), (1, 1), (3, 2), (2, 1), (7, 3), (24, 1)):
                least = min(weight_at(book, web, lot, 0, Fraction(*told)) for lot in lots(web.points)[1:])
                wanted = "rare" if least < 0 else "break" if least == 0 else "comes"
                self.exactly(comes_at(book, web, 0, told), wanted)

    def test_without_ties_of_the_sort(self):
        level = Book([1], [(0, 0, 2), (0, 0, 1)])
        self.exactly(comes_at(level, Web.way(1), 1, (5, 1)), "break")
        self.exactly(comes_at(level.with_thinness(0, 3), Web.way(1), 1, (1, 5)), "rare")
        self.exactly(comes_at(level.with_thinness(0, 1), Web.way(1), 1, (5, 1)), "comes")

    def test_errors_in_their_order(self):
        for value in STRANGE + (THREE,):
            self.refused(BadBook("book"), comes_at, value, value, value, value)
        for value in STRANGE + (PLAIN,):
            self.refused(BadWeb("web"), comes_at, PLAIN, value, 9, 9)
        for value in STRANGE + (1, -1):
            self.refused(NoSort(value), comes_at, PLAIN, UNFIT, value, 9)
        for value in STRANGE + ((0, 1), (-1, 2), (2, 4), (1, 0), (1, -2), (1,), (True, 1), (1, 1.0), 1):
            self.refused(BadRatio("ratio"), comes_at, PLAIN, UNFIT, 0, value)
        self.refused(Misfit("book"), comes_at, PLAIN, UNFIT, 0, (1, 2))


class TestShowsDial(Asking):
    def test_any_level_part(self):
        for part in ((0, 1, 2, 3), [0, 1, 3]):
            self.assertIs(shows_dial(PLAIN, TAIL, 0, Dial([11, 1], part)), True)
        for part in ((0, 1), (0,), (), (0, 1, 2), (0, 3, 1), (0, 1, 1, 3), (0, 1, 3, 4), (0, True, 3), None, "013", 7):
            self.assertIs(shows_dial(PLAIN, TAIL, 0, Dial((11, 1), part)), False)

    def test_each_part(self):
        for book, web in made_pairs(60):
            right = plain_dial(book, web, 0)
            for lot in lots(web.points)[1:]:
                many, rest = count_and_rest(book, web, lot, 0)
                self.assertIs(shows_dial(book, web, 0, Barred(list(lot))), rest <= 0)
                if right.word == "dial":
                    level = rest == many * Fraction(*right.ratio)
                    self.assertIs(shows_dial(book, web, 0, Dial(right.ratio, lot)), level)
            self.assertIs(shows_dial(book, web, 0, Any()), right.word == "any")

    def test_bent_ratios(self):
        for ratio in ((22, 2), (10, 1), (12, 1), (11,), (11, 1, 1), 11, (11.0, 1), (11, True), (-11, -1), "11", None, (22, 3)):
            self.assertIs(shows_dial(PLAIN, THREE, 0, Dial(ratio, (0, 1, 2))), False)
        self.assertIs(shows_dial(PLAIN, Web.way(1), 0, Dial((22, 1), (0, 1))), True)
        self.assertIs(shows_dial(Book([1], [(0, 0, 3)]), THREE, 0, Dial((True, True), (0, 1, 2))), False)
        self.assertIs(shows_dial(Book([1], [(0, 0, 3)]), THREE, 0, Dial((1, 1), (0, 1, 2))), True)

    def test_no_dial_where_a_part_is_barring(self):
        level = Book([1], [(0, 0, 2), (0, 0, 1)])
        web = Web([0] * 4, [(0, 1, 0), (2, 3, 1)])
        self.assertIs(shows_dial(level, web, 1, Dial((2, 1), (2, 3))), False)
        self.assertIs(shows_dial(level, web, 1, Any()), False)
        self.assertIs(shows_dial(level, web, 1, Barred((0, 1))), True)
        self.assertIs(shows_dial(level, web, 1, Barred((0, 1, 2))), False)
        for part in ((1, 0), (0, 0, 1), (), (0, True), (0, 1.0), (0, 4), None, ((0, 1),)):
            self.assertIs(shows_dial(level, web, 1, Barred(part)), False)

    def test_values_of_any_kind(self):
        others = (Paper("dial", (11, 1), (0, 1, 2)), Paper("any"), Denial("barred", (0,)), OnBreak((0,)), Dial)
        others += strangers(dial(PLAIN, THREE, 0)) + strangers(Any())
        for value in STRANGE + others + ((11, 1), "any", [(11, 1), (0, 1, 2)]):
            self.assertIs(shows_dial(PLAIN, THREE, 0, value), False)
            self.assertIs(shows_dial(PLAIN, Web([0]), 0, value), False)
        for value in (Denial("barred", (0, 1)), OnBreak((0, 1))) + strangers(Barred((0, 1))):
            self.assertIs(shows_dial(TWICE, BENT, 1, value), False)
        self.assertIs(shows_dial(value=Any(), sort=0, web=Web([0]), book=PLAIN), True)

    def test_the_greatest_webs(self):
        for book, web in greatest_webs():
            for sort in range(len(book.sorts)):
                paper = self.quick(dial, book, web, sort)
                self.assertEqual(paper, plain_dial(book, web, sort))
                self.assertIs(self.quick(shows_dial, book, web, sort, paper), True)
                self.quick(comes_at, book, web, sort, (10 ** 59 + 1, 10 ** 59))


if __name__ == "__main__":
    unittest.main()
