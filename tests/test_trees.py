"""All trees of a few things, towns of copies of them, and the thin side."""

import itertools
import random
import unittest

from tests.asked import copies, grown_trees, made_questions, pattern_questions, plain_by_views, plain_holds, plain_views
from tests.asking import STRANGE, Asking
from tests.making import plain_weight
from tests.test_greatest import ALL_PLAIN, NOT_PLAIN
from thincoins.books import Book
from thincoins.errors import BadBook, BadNumber, BadQuestion, Impossible, Misfit, TooMany
from thincoins.questions import Question
from thincoins.thinside import Trees, TreesBreak, greatest_tree, thin_verdict
from thincoins.towns import Town, holds
from thincoins.trees import thin_town, trees
from thincoins.views import answer, views_of_town
from thincoins.webs import Web

FOUR = Question.read("some x some x some x some x tied x x")


def least_ties(things, ties):
    """The least ties of all towns that are this one but for the numbers of their things."""
    orders = itertools.permutations(range(things))
    return min(tuple(sorted(tuple(sorted((row[one], row[other]))) for one, other in ties)) for row in orders)


class TestTrees(Asking):
    def test_each_once_with_the_least_ties(self):
        wanted = []
        for things in range(1, 7):
            wanted += [(things, ties) for ties in sorted(least_ties(things, ties) for ties in grown_trees(things))]
        self.exactly(len(wanted), 14)
        for most in range(1, 7):
            told = [tree for tree in trees(most)]
            self.exactly([(tree.things, tree.ties) for tree in told], [row for row in wanted if row[0] <= most])
            self.assertTrue(all(isinstance(tree, Town) for tree in told))

    def test_one_by_one(self):
        some = trees(most=6)
        self.exactly([next(some).ties for _ in range(3)], [(), ((0, 1),), ((0, 1), (0, 2))])

    def test_refused(self):
        for value in STRANGE + (0, 7, -1, 10 ** 59, [3]):
            self.refused(BadNumber("most"), lambda: next(trees(value)))
            self.refused(BadNumber("most"), thin_town, value, value)
            if value != 7:
                self.refused(BadNumber("copies"), thin_town, 6, value)
        for many in (0, 41):
            self.refused(BadNumber("copies"), thin_town, 1, many)


class TestThinTown(Asking):
    def test_tree_by_tree(self):
        for most in range(1, 7):
            rows = [(tree.things, tree.ties) for tree in trees(most)]
            for many in range(1, 41):
                things, ties = copies(rows, many)
                if things > 40:
                    self.refused(TooMany("things", 40), thin_town, most, many)
                else:
                    town = thin_town(most, many)
                    self.exactly((town.things, town.ties), (things, tuple(sorted(ties))))
        self.exactly(thin_town(copies=40, most=1).things, 40)
        self.exactly([thin_town(4, 2).things, thin_town(5, 1).things], [28, 29])


class TestGreatestTree(Asking):
    def test_every_thin_book(self):
        words = set()
        for book in ALL_PLAIN:
            size, thin = book.sizes[0], book.sorts[0][2]
            if thin <= size:
                self.refused(Misfit("thin"), greatest_tree, book)
                continue
            k = max(k for k in range(1, 30) if k * (thin - size) < thin)
            told = TreesBreak(k + 1) if (k + 1) * (thin - size) == thin else Trees(k)
            self.exactly(greatest_tree(book), told)
            words.add(told.word)
        self.exactly(sorted(words), ["trees", "treesbreak"])

    def test_as_trees_weigh(self):
        for book in ALL_PLAIN:
            if book.sorts[0][2] <= book.sizes[0]:
                continue
            told = greatest_tree(book)
            for points in range(1, 7):
                web = Web.way(points - 1)
                weight = plain_weight(book, web, range(points))
                if told:
                    self.exactly(weight > 0, points <= told.number)
                else:
                    self.exactly((weight > 0, weight == 0), (points < told.number, points == told.number))

    def test_known(self):
        self.exactly(greatest_tree(Book([12], [(0, 0, 13)])), TreesBreak(13))
        self.exactly(greatest_tree(Book([11], [(0, 0, 12)])), TreesBreak(12))
        self.exactly(greatest_tree(book=Book([1], [(0, 0, 24)])), Trees(1))
        self.exactly(greatest_tree(Book([1], [(0, 0, 2)])), TreesBreak(2))
        self.exactly([bool(Trees(1)), bool(TreesBreak(1))], [True, False])

    def test_refused(self):
        for value in STRANGE + (Web([0]), "5 : 0 0 7"):
            self.refused(BadBook("book"), greatest_tree, value)
        for book in NOT_PLAIN + (Book([3], [(0, 0, 4), (0, 0, 4)]),):
            self.refused(Misfit("plain"), greatest_tree, book)


THIN = {1: Book([4], [(0, 0, 9)]), 2: Book([4], [(0, 0, 7)]), 3: Book([5], [(0, 0, 7)]), 4: Book([7], [(0, 0, 9)])}


class TestThinVerdict(Asking):
    def test_as_the_town_of_copies(self):
        chance = random.Random(101)
        answers = []
        for text in made_questions(250, seed=102):
            question, most = Question.read(text), chance.randint(1, 3)
            things, ties = copies([(tree.things, tree.ties) for tree in trees(most)], question.looks)
            told = thin_verdict(THIN[most], question)
            self.exactly(told, plain_holds(things, ties, text))
            answers.append((most, told))
        for most in (1, 2, 3):
            self.assertGreater(min(answers.count((most, True)), answers.count((most, False))), 15)

    def test_where_the_town_would_have_too_many_things(self):
        rows = [(tree.things, tree.ties) for tree in trees(4)]
        things, ties = copies(rows, 3)
        self.exactly(things, 42)
        for text in made_questions(25, seed=103, room=20):
            question = Question.read(text)
            its, told = copies(rows, question.looks)
            self.exactly(thin_verdict(THIN[4], question), plain_holds(its, told, text))
        inner = "some x some y and tied x y some z and tied y z not same x z"
        self.exactly([thin_verdict(THIN[most], Question.read(inner)) for most in (1, 2, 3, 4)], [False, False, True, True])

    def test_three_things_in_all_patterns(self):
        answers = []
        for most in (1, 2, 3, 4):
            views = plain_views(*copies([(tree.things, tree.ties) for tree in trees(most)], 3))
            for text in pattern_questions():
                told = thin_verdict(THIN[most], Question.read(text))
                self.exactly(told, plain_by_views(views, text))
                answers.append(told)
        self.assertGreater(min(answers.count(True), answers.count(False)), 40)

    def test_as_towns_that_can_be_built(self):
        for text in made_questions(60, seed=104, looks=2):
            question = Question.read(text)
            for most in (1, 2, 3, 4):
                self.exactly(thin_verdict(THIN[most], question), holds(thin_town(most, question.looks), question))

    def test_one_look_sees_but_itself(self):
        self.exactly(thin_verdict(question=Question.read("all x tied x x"), book=THIN[4]), False)
        self.exactly(thin_verdict(THIN[1], Question.read("some x same x x")), True)

    def test_errors_in_their_order(self):
        free, four = Question.read("tied x y"), FOUR
        many, level = Book([7], [(0, 0, 8)]), Book([2], [(0, 0, 3)])
        for value in STRANGE + (Web([0]),):
            self.refused(BadBook("book"), thin_verdict, value, value)
        for value in STRANGE + ("all x tied x x", Town(1)):
            self.refused(BadQuestion("question"), thin_verdict, Book([1]), value)
        for book in NOT_PLAIN:
            self.refused(Misfit("plain"), thin_verdict, book, free)
        for book in (Book([4], [(0, 0, 4)]), Book([4], [(0, 0, 3)])):
            self.refused(Misfit("thin"), thin_verdict, book, free)
        self.refused(Misfit("free"), thin_verdict, many, free)
        self.refused(Misfit("free"), thin_verdict, many, four.both(free))
        self.refused(TooMany("looks", 3), thin_verdict, many, four)
        # There are trees of 7 things; 8 are level, but 7 are too many ahead of that.
        closed = Question.read("all x tied x x")
        self.refused(TooMany("points", 4), thin_verdict, many, closed)
        self.refused(TooMany("points", 4), thin_verdict, Book([10], [(0, 0, 12)]), closed)
        self.refused(TooMany("points", 4), thin_verdict, Book([9], [(0, 0, 11)]), closed)
        self.refused(TooMany("looks", 3), thin_verdict, level, four)
        self.refused(Impossible(TreesBreak(3)), thin_verdict, level, closed)
        self.refused(Impossible(TreesBreak(5)), thin_verdict, Book([4], [(0, 0, 5)]), closed)
        self.exactly(greatest_tree(many), TreesBreak(8))

    def test_quick(self):
        texts = ["all x all y all z " + "or tied x x " * 7 + "same z z", "not some x some y some z " + "and same x x " * 7 + "tied z z"]
        self.exactly(self.quick(lambda: [thin_verdict(THIN[4], Question.read(text)) for text in texts]), [True, True])


class TestAgreement(Asking):
    def test_towns_of_copies_answer_by_their_views(self):
        for most, many in ((1, 3), (2, 3), (3, 3), (4, 2)):
            town = thin_town(most, many)
            for text in made_questions(20, seed=105 + most):
                question = Question.read(text)
                self.exactly(answer(views_of_town(town), question), holds(town, question))


if __name__ == "__main__":
    unittest.main()
