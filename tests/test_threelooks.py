"""The cells of plain books, their views, verdicts, and dials of questions."""

import random
import unittest

from tests.asked import copies, grown_trees, made_questions, made_ties, pattern_questions, plain_by_views, plain_views
from tests.asking import STRANGE, Asking
from tests.test_greatest import ALL_PLAIN, NOT_PLAIN
from thincoins.books import Book
from thincoins.checks import compared
from thincoins.errors import BadBook, BadNumber, BadQuestion, BadTown, Impossible, Misfit, TooMany
from thincoins.friends import Power, friends
from thincoins.mutual import mutual
from thincoins.questiondials import changes, parting_cells, question_dial
from thincoins.questions import Question
from thincoins.thinside import greatest_tree, thin_verdict
from thincoins.threelooks import DialBreak, cell_of, cell_of_town, verdict, views_of_cell
from thincoins.towns import Town, holds
from thincoins.trees import thin_town
from thincoins.views import answer, are_views, views_of_town
from thincoins.webs import Web

BOUNDS = ((0, 1), (1, 2), (2, 3), (1, 1), (7, 6), (6, 5), (5, 4), (4, 3), (3, 2), (2, 1))
BREAKS = BOUNDS[3:]
THREES = Town(6, [(0, 1), (0, 2), (1, 2), (3, 4), (3, 5), (4, 5), (0, 3), (1, 4), (2, 5)])
RING = Town(5, [(0, 1), (1, 2), (2, 3), (3, 4), (0, 4)])
GRID = Town(9, [(a, b) for b in range(9) for a in range(b) if a // 3 == b // 3 or a % 3 == b % 3])
# A book in each of the cells.
BY_CELL = [Book([size], [(0, 0, thin)]) for size, thin in (
    (11, 5), (2, 1), (3, 2), (7, 8), (11, 13), (9, 11), (7, 9), (5, 7), (7, 11), (1, 3)
)]
WHOLE = (0, 1, 2, 3)
FREE, FOUR = Question.read("tied x y"), Question.read("some x some x some x some x tied x x")


def plain_cell(size, thin):
    """The number of the cell, or the break."""
    for ratio in BREAKS:
        if thin * ratio[1] == size * ratio[0]:
            return ratio
    return max(cell for cell, ratio in enumerate(BOUNDS) if thin * ratio[1] >= size * ratio[0])


class TestCells(Asking):
    def test_every_plain_book(self):
        met = []
        for book in ALL_PLAIN:
            told = plain_cell(book.sizes[0], book.sorts[0][2])
            if isinstance(told, tuple):
                self.refused(Impossible(DialBreak(told)), cell_of, book)
            else:
                self.exactly(cell_of(book), told)
            met.append(told)
        self.assertEqual(set(met), set(BREAKS) | set(range(10)))

    def test_beside_the_breaks(self):
        for size, thin, told in (
            (12, 5, 0), (12, 6, 1), (12, 7, 1), (12, 8, 2), (12, 11, 2), (12, 13, 3), (11, 13, 4), (11, 12, 3), (9, 11, 5),
            (12, 17, 7), (12, 19, 8), (12, 23, 8), (12, 1, 0), (1, 24, 9), (11, 23, 9), (9, 7, 2), (7, 9, 6), (8, 11, 7),
        ):
            self.exactly(cell_of(Book([size], [(0, 0, thin)])), told)
        for size, thin, ratio in ((12, 12, (1, 1)), (6, 7, (7, 6)), (12, 14, (7, 6)), (10, 12, (6, 5)), (8, 10, (5, 4)),
                                  (9, 12, (4, 3)), (10, 15, (3, 2)), (12, 24, (2, 1)), (1, 1, (1, 1)), (2, 4, (2, 1))):
            self.refused(Impossible(DialBreak(ratio)), cell_of, Book([size], [(0, 0, thin)]))
        self.exactly((bool(DialBreak((1, 1))), DialBreak([7, 6]).ratio, DialBreak((7, 6)).word), (False, (7, 6), "dialbreak"))

    def test_by_what_other_functions_tell(self):
        for book in ALL_PLAIN:
            told = plain_cell(book.sizes[0], book.sorts[0][2])
            if isinstance(told, tuple):
                continue
            if told > 2:
                tree = greatest_tree(book)
                self.exactly(min(7, tree.number if tree else tree.number - 1), 10 - told)
            else:
                self.exactly(told == 0, isinstance(friends(book, 0, [0, 0]), Power))
                self.assertGreater(mutual(book).number, 2)

    def test_refused(self):
        for value in STRANGE + (Web([0]), "5 : 0 0 7"):
            self.refused(BadBook("book"), cell_of, value)
        for book in NOT_PLAIN:
            self.refused(Misfit("plain"), cell_of, book)
        self.exactly(cell_of(book=Book([11], [(0, 0, 5)])), 0)
        for value in STRANGE + (-1, 10, 10 ** 59, [3]):
            self.refused(BadNumber("cell"), views_of_cell, value)


class TestViewsOfCells(Asking):
    def test_thick_cells(self):
        three = (0, 1, 2)
        mixed = ((0, three), (0, WHOLE), (1, three), (1, WHOLE))
        self.exactly(views_of_cell(0), (((0, WHOLE), (1, WHOLE)),))
        self.exactly(views_of_cell(1), (mixed,))
        self.exactly(views_of_cell(2), (((0, three), (0, WHOLE), (1, three)), mixed))

    def test_thin_cells_are_those_of_towns_of_trees(self):
        rows = []
        for most in range(1, 8):
            rows += [(most, ties) for ties in grown_trees(most)]
            things, ties = copies(rows, 3)
            # One copy of each tree is looked at, beside all of them.
            first = [at for its, _ in rows for at in range(its)]
            begins, begin = [], 0
            for its, _ in rows:
                begins += [begin + at for at in range(its)]
                begin += 3 * its
            self.assertEqual(len(first), len(begins))
            self.exactly(views_of_cell(cell=10 - most), plain_views(things, ties, begins))

    def test_each_is_right(self):
        for cell in range(10):
            self.assertIs(are_views(views_of_cell(cell)), True)
        self.exactly([len(views_of_cell(cell)) for cell in range(10)], [1, 1, 2, 12, 11, 9, 6, 4, 2, 1])
        self.assertEqual(len({views_of_cell(cell) for cell in range(10)}), 10)


class TestCellOfTown(Asking):
    def test_known_towns(self):
        for town, cell in (
            (GRID, 0), (THREES.beside(THREES), 1), (THREES.beside(RING), 2), (THREES, None), (Town(3), 9), (Town(40), 9),
            (Town(2), None), (Town(1), None), (RING, None), (thin_town(2, 3), 8), (thin_town(3, 3), 7), (thin_town(4, 2), 6),
            (GRID.beside(GRID), None), (thin_town(2, 1), None), (thin_town(4, 2).beside(thin_town(3, 2)), 6), (thin_town(5, 1), None),
        ):
            self.exactly(cell_of_town(town), cell)
        self.exactly(cell_of_town(town=GRID), 0)

    def test_as_the_views_are(self):
        chance = random.Random(121)
        for _ in range(60):
            things = chance.randint(1, 7)
            town = Town(things, made_ties(chance, things))
            told = cell_of_town(town)
            self.exactly([cell for cell in range(10) if views_of_cell(cell) == views_of_town(town)], [] if told is None else [told])

    def test_refused(self):
        for value in STRANGE + (3, Book([3])):
            self.refused(BadTown("town"), cell_of_town, value)


class TestVerdict(Asking):
    def test_by_the_views_of_the_cell(self):
        answers = []
        for text in made_questions(120, seed=122) + pattern_questions():
            question = Question.read(text)
            for cell, book in enumerate(BY_CELL):
                told = verdict(book, question)
                self.exactly(told, plain_by_views(views_of_cell(cell), text))
                answers.append(told)
        self.assertGreater(min(answers.count(True), answers.count(False)), 200)
        self.exactly([cell_of(book) for book in BY_CELL], list(range(10)))

    def test_as_towns_with_these_views(self):
        towns = {0: GRID, 1: THREES.beside(THREES), 2: THREES.beside(RING), 6: thin_town(4, 2), 7: thin_town(3, 3), 9: Town(3)}
        for text in made_questions(60, seed=123):
            question = Question.read(text)
            for cell, town in towns.items():
                self.exactly(verdict(BY_CELL[cell], question), holds(town, question))

    def test_as_thin_verdict(self):
        for text in made_questions(80, seed=124):
            question = Question.read(text)
            for cell in (6, 7, 8, 9):
                self.exactly(verdict(BY_CELL[cell], question), thin_verdict(BY_CELL[cell], question))

    def test_errors_in_their_order(self):
        level, closed = Book([4], [(0, 0, 5)]), Question.read("all x same x x")
        for value in STRANGE + (Web([0]),):
            self.refused(BadBook("book"), verdict, value, value)
        for value in STRANGE + ("all x same x x", Town(1)):
            self.refused(BadQuestion("question"), verdict, Book([1]), value)
        for book in NOT_PLAIN:
            self.refused(Misfit("plain"), verdict, book, FREE)
        self.refused(Misfit("free"), verdict, level, FREE)
        self.refused(Misfit("free"), verdict, level, FOUR.both(FREE))
        self.refused(TooMany("looks", 3), verdict, level, FOUR)
        self.refused(Impossible(DialBreak((5, 4))), verdict, level, closed)
        self.exactly(verdict(question=closed, book=BY_CELL[4]), True)


class TestQuestionDials(Asking):
    def test_cell_by_cell(self):
        met = set()
        for text in made_questions(100, seed=125) + pattern_questions():
            question = Question.read(text)
            told = question_dial(question)
            self.exactly([row[0] for row in told], list(zip(BOUNDS, BOUNDS[1:] + (None,))))
            self.exactly([row[1] for row in told], [answer(views_of_cell(cell), question) for cell in range(10)])
            marks = tuple(told[cell][0][0] for cell in range(1, 10) if told[cell][1] != told[cell - 1][1])
            self.exactly(changes(question), marks)
            met |= set(marks)
        self.assertGreater(len(met), 3)

    def test_all_bounds_can_be_changes(self):
        three = "some x some y some z and tied x y and tied y z tied x z"
        for text, ratios in (
            (three, ((1, 1),)), ("all x all y or same x y some z and tied x z tied y z", ((1, 2),)),
            ("all x some y and tied x y some z and tied x z tied y z", ((2, 3),)), ("some x some y tied x y", ((2, 1),)),
            ("some x some y and tied x y some z and not same x z tied y z", ((3, 2),)), ("some x same x x", ()),
            ("all x some y tied x y", ((1, 1),)), ("some x all y not tied x y", ((1, 1),)),
            ("some x some y and tied x y and some z and tied x z not same z y some z and tied y z not same z x", ((4, 3),)),
            ("some x and some y and tied x y some z and tied x z not same y z all y or not tied x y some z and tied y z "
             "not same z x", ((5, 4),)),
            ("some x all y and some z and tied x z not same y z or same x y or all z not tied y z some z and tied y z not "
             "or tied x z same x z", ((7, 6),)),
        ):
            self.exactly(changes(Question.read(text)), ratios)
        self.exactly(question_dial(question=Question.read(three))[2:4], ((((2, 3), (1, 1)), True), (((1, 1), (7, 6)), False)))
        self.exactly(changes(question=Question.read(three)), ((1, 1),))

    def test_parting_cells(self):
        texts = made_questions(60, seed=126) + pattern_questions()
        some = 0
        for text, more in zip(texts, texts[1:]):
            one, other = Question.read(text), Question.read(more)
            cells = tuple(
                cell for cell in range(10) if answer(views_of_cell(cell), one) != answer(views_of_cell(cell), other)
            )
            self.exactly(parting_cells(one, other), cells)
            self.exactly(parting_cells(other=one, one=other), cells)
            some += len(cells) not in (0, 10)
        self.assertGreater(some, 20)
        self.exactly(parting_cells(one, one.negated()), tuple(range(10)))

    def test_refused(self):
        closed = Question.read("all x same x x")
        for call in (question_dial, changes):
            for value in STRANGE + ("all x same x x", Town(1)):
                self.refused(BadQuestion("question"), call, value)
            self.refused(Misfit("free"), call, FREE)
            self.refused(Misfit("free"), call, FOUR.both(FREE))
            self.refused(TooMany("looks", 3), call, FOUR)
        for value in STRANGE + ("all x same x x", Town(1)):
            self.refused(BadQuestion("one"), parting_cells, value, value)
            self.refused(BadQuestion("other"), parting_cells, FREE, value)
        for one, other in ((FREE, closed), (closed, FREE), (FOUR, FREE), (FREE, FOUR)):
            self.refused(Misfit("free"), parting_cells, one, other)
        for one, other in ((FOUR, closed), (closed, FOUR), (FOUR, FOUR)):
            self.refused(TooMany("looks", 3), parting_cells, one, other)

    def test_ratios_ascend(self):
        lows = [row[0][0] for row in question_dial(Question.read("all x same x x"))]
        self.exactly([compared(one, other) for one, other in zip(lows, lows[1:])], [-1] * 9)


if __name__ == "__main__":
    unittest.main()
