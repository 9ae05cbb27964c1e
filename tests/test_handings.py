"""Whether webs come, with handings, heavy parts and level parts; which papers are right."""

import unittest

from tests.asking import STRANGE, Asking, strangers
from tests.making import greatest_webs, lots, made_pairs, plain_weight
from thincoins.books import Book
from thincoins.check_weights import shows_comes
from thincoins.dials import Barred
from thincoins.errors import BadBook, BadWeb, Misfit
from thincoins.handings import Comes, OnBreak, Rare, comes
from thincoins.papers import Denial, Paper
from thincoins.webs import Web

BOOK = Book([11], [(0, 0, 7)])
EVEN = Book([1], [(0, 0, 1)])
FOUR = Web.all_tied(4)
CUT = ((28, 0), (14, 14), (0, 28), (28, 0), (14, 14), (28, 0))


def verdict_of(book, web):
    """comes, rare or onbreak, by the weights of all parts."""
    least = min(plain_weight(book, web, lot) for lot in lots(web.points)[1:])
    return "rare" if least < 0 else "onbreak" if least == 0 else "comes"


class TestComes(Asking):
    def is_handing(self, book, web, handing):
        """Pairs of integers from 0 on that add up, and no point above its room."""
        self.assertEqual(len(handing), len(web.ties))
        got = [0] * web.points
        for (one, two, sort), pair in zip(web.ties, handing):
            self.assertEqual([type(number) for number in pair], [int, int])
            self.assertGreaterEqual(min(pair), 0)
            self.assertEqual(sum(pair), web.points * book.sorts[sort][2])
            got[one] += pair[0]
            got[two] += pair[1]
        for point, kind in enumerate(web.kinds):
            self.assertLessEqual(got[point], web.points * book.sizes[kind] - 1)

    def right(self, book, web):
        """The paper is the one that the weights ask for, and is shown to be right."""
        paper = comes(book, web)
        self.exactly(paper.word, verdict_of(book, web))
        self.assertTrue(shows_comes(book, web, paper))
        self.assertEqual(comes(book, web), paper)
        parts = lots(web.points)[1:]
        weights = {part: plain_weight(book, web, part) for part in parts}
        if paper.word == "comes":
            self.is_handing(book, web, paper.handing)
        if paper.word == "rare":
            least = min(weights.values())
            within = set(range(web.points)).intersection(*[part for part in parts if weights[part] == least])
            self.exactly(paper.part, tuple(sorted(within)))
        if paper.word == "onbreak":
            self.exactly(paper.part, [part for part in parts if weights[part] == 0][0])
        return paper.word

    def test_all_kinds_of_webs(self):
        words = [self.right(book, web) for book, web in made_pairs(400)]
        self.assertGreater(min(words.count(word) for word in ("comes", "rare", "onbreak")), 10)

    def test_the_least_part_of_a_rare(self):
        book = Book([1], [(0, 0, 2), (0, 0, 1)])
        web = Web([0] * 6, [(0, 1, 0), (2, 3, 0), (2, 3, 1), (4, 5, 0)])
        self.assertEqual(comes(book, web), Rare((2, 3)))
        self.assertEqual(comes(BOOK, Web.all_tied(5)), Rare((0, 1, 2, 3, 4)))

    def test_the_first_part_of_an_on_break(self):
        book = Book([1], [(0, 0, 2)])
        self.assertEqual(comes(book, Web([0] * 5, [(3, 4, 0), (1, 2, 0)])), OnBreak((1, 2)))
        self.assertEqual(comes(EVEN, Web([0] * 4, [(0, 1, 0), (1, 2, 0), (1, 3, 0), (2, 3, 0)])), OnBreak((1, 2, 3)))

    def test_points_alone(self):
        for points in range(1, 7):
            self.assertEqual(comes(EVEN, Web([0] * points)), Comes(()))

    def test_just_enough_room(self):
        self.exactly(self.right(Book([1, 2], [(0, 1, 2)]), Web([0, 1, 1], [(0, 1, 0)])), "comes")
        self.exactly(self.right(Book([2, 3, 1], [(0, 1, 4), (1, 2, 3)]), Web([0, 1], [(0, 1, 0)])), "comes")
        self.exactly(self.right(EVEN, Web.way(5)), "comes")
        self.exactly(self.right(Book([3], [(0, 0, 1)]), Web.all_tied(6)), "comes")
        self.exactly(self.right(Book([5], [(0, 0, 2)]), Web.all_tied(6)), "onbreak")

    def test_refused(self):
        unfit = Web([0, 0], [(0, 1, 1)])
        for value in STRANGE + (FOUR, "2 : -"):
            self.refused(BadBook("book"), comes, value, value)
            self.refused(BadBook("book"), shows_comes, value, value, value)
        for value in STRANGE + (BOOK, "0 : -"):
            self.refused(BadWeb("web"), comes, BOOK, value)
            self.refused(BadWeb("web"), shows_comes, BOOK, value, value)
        self.refused(Misfit("book"), comes, BOOK, unfit)
        self.refused(Misfit("book"), shows_comes, BOOK, unfit, Comes(()))
        self.assertEqual(comes(web=FOUR, book=BOOK), comes(BOOK, FOUR))

    def test_the_greatest_webs(self):
        words = []
        for book, web in greatest_webs():
            paper = self.quick(comes, book, web)
            self.exactly(paper.word, verdict_of(book, web))
            self.assertIs(self.quick(shows_comes, book, web, paper), True)
            words.append(paper.word)
        self.assertTrue({"comes", "rare"} <= set(words))


class TestShowsComes(Asking):
    def test_any_handing(self):
        self.assertIs(shows_comes(BOOK, FOUR, Comes(CUT)), True)
        self.assertIs(shows_comes(BOOK, FOUR, Comes([list(pair) for pair in CUT])), True)
        self.assertIs(shows_comes(value=comes(BOOK, FOUR), web=FOUR, book=BOOK), True)
        self.assertIs(shows_comes(EVEN, Web([0, 0]), Comes([])), True)

    def test_bent_handings(self):
        for at in range(6):
            for pair in ((29, -1), (28, 1), (27, 0), (28.0, 0), (28, False), (28,), (28, 0, 0), "28", None, 28, (), ("28", 0)):
                self.assertIs(shows_comes(BOOK, FOUR, Comes(CUT[:at] + (pair,) + CUT[at + 1:])), False)
        for handing in (CUT[:5], CUT + ((28, 0),), CUT + ((0, 0),), (), CUT[:1] + ((16, 12),) + CUT[2:], (CUT,), {}, None, 6):
            self.assertIs(shows_comes(BOOK, FOUR, Comes(handing)), False)
        one = Book([1], [(0, 0, 1)])
        self.assertIs(shows_comes(one, Web.way(1), Comes([(1, 1)])), True)
        self.assertIs(shows_comes(one, Web.way(1), Comes([(True, True)])), False)
        self.assertIs(shows_comes(one, Web.way(1), Comes([(2, 0)])), False)

    def test_no_handing_of_what_does_not_come(self):
        self.assertIs(shows_comes(EVEN, Web.ring(3), Comes([(3, 0), (0, 3), (3, 0)])), False)
        self.assertIs(shows_comes(EVEN, Web.ring(3), Comes([(1, 2), (1, 2), (1, 2)])), False)

    def test_each_heavy_part_and_no_other(self):
        for book, web in made_pairs(60):
            heavy = any(plain_weight(book, web, lot) < 0 for lot in lots(web.points))
            for lot in lots(web.points)[1:]:
                weight = plain_weight(book, web, lot)
                self.assertIs(shows_comes(book, web, Rare(list(lot))), weight < 0)
                self.assertIs(shows_comes(book, web, OnBreak(lot)), weight == 0 and not heavy)

    def test_bent_parts(self):
        for part in ((3, 2, 1, 0), (0, 1, 2, 2), (0, 0, 1, 2, 3), (0, 1, 2, 4), (-1, 0, 1, 2, 3), (), (0, True, 2, 3), 0, None):
            self.assertIs(shows_comes(EVEN, FOUR, Rare(part)), False)
        for part in ((0, 2, 1), (0, 1, 1, 2), (0, 1, 2, 3), (False, 1, 2), (0, 1.0, 2), ((0, 1, 2),), (), "012", None, {0: 0}):
            self.assertIs(shows_comes(EVEN, Web.ring(3), OnBreak(part)), False)
        self.assertIs(shows_comes(EVEN, Web.ring(3), OnBreak([0, 1, 2])), True)
        self.assertIs(shows_comes(EVEN, Web([0]), OnBreak(())), False)
        two = Book([1], [(0, 0, 2), (0, 0, 3)])
        self.assertIs(shows_comes(two, Web([0] * 4, [(0, 1, 0), (2, 3, 1)]), OnBreak((0, 1))), False)
        self.assertIs(shows_comes(two, Web([0] * 4, [(0, 1, 0)]), OnBreak((0, 1))), True)

    def test_values_of_any_kind(self):
        others = (Paper("comes", CUT), Denial("rare", (0,)), Barred((0,)), Comes, CUT, [CUT], FOUR, "comes", 28)
        for value in STRANGE + others + strangers(Comes(CUT)):
            self.assertIs(shows_comes(BOOK, FOUR, value), False)
        points = (0, 1, 2, 3)
        for value in (Paper("rare", points), Denial("rare", points), Barred(points), points) + strangers(Rare(points)):
            self.assertIs(shows_comes(EVEN, FOUR, value), False)
        for value in strangers(OnBreak((0, 1, 2))):
            self.assertIs(shows_comes(EVEN, Web.ring(3), value), False)


if __name__ == "__main__":
    unittest.main()
