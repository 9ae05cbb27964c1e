"""Towns, and closed questions that hold in them."""

import random
import unittest

from tests.asked import made_questions, made_ties, plain_holds
from tests.asking import STRANGE, Asking
from thincoins.books import Book
from thincoins.errors import BadQuestion, BadTown, Misfit, TooMany, Twice
from thincoins.questions import Question
from thincoins.towns import Town, holds


class TestMaking(Asking):
    def test_attributes(self):
        town = Town(4, [(3, 1), [0, 1], (2, 0)])
        self.exactly((town.things, town.ties), (4, ((0, 1), (0, 2), (1, 3))))
        self.exactly((Town(1).things, Town(1).ties, Town(ties=((1, 0),), things=40).ties), (1, (), ((0, 1),)))

    def test_things(self):
        for value in STRANGE + (0, -1, 41, 10 ** 59, [3]):
            self.refused(BadTown("things"), Town, value, None)
        for things in (1, 40):
            self.exactly(Town(things).things, things)

    def test_ties(self):
        for value in STRANGE + (3, "01", {(0, 1): 1}):
            self.refused(BadTown("ties"), Town, 3, value)
        for tie in ((0,), (), (0, 1, 2), (0, 0), (0, 3), (-1, 0), (True, 0), (0, True), (0, 1.0), "01", {0: 1, 1: 2}, None, 5, (None, 0)):
            self.refused(BadTown("ties"), Town, 3, [tie])
            self.refused(BadTown("ties"), Town, 3, [(0, 1), (0, 1), tie])
        self.refused(BadTown("ties"), Town, 1, [(0, 1)])

    def test_twice_as_it_was_passed(self):
        self.refused(Twice((1, 0)), Town, 3, [(0, 1), (0, 2), (1, 0), (2, 0)])
        self.refused(Twice([1, 0]), Town, 3, [(1, 0), [1, 0]])

    def test_what_is_passed_may_be_changed(self):
        tie = [0, 1]
        ties = [tie]
        town = Town(3, ties)
        tie[1] = 2
        ties.append((1, 2))
        self.exactly(town.ties, ((0, 1),))

    def test_equality(self):
        town = Town(3, [(0, 1)])
        self.assertTrue(town == Town(3, ([1, 0],)))
        self.assertFalse(town != Town(3, ([1, 0],)))
        for other in (Town(4, [(0, 1)]), Town(3), Town(3, [(0, 2)]), (3, ((0, 1),)), None, 3, Book([3])):
            self.assertFalse(town == other)
            self.assertFalse(other == town)
            self.assertTrue(town != other)

    def test_beside(self):
        one, other = Town(3, [(1, 2)]), Town(2, [(0, 1)])
        self.exactly((one.beside(other).things, one.beside(other).ties), (5, ((1, 2), (3, 4))))
        self.exactly(other.beside(other=one).ties, ((0, 1), (3, 4)))
        self.exactly(Town(39).beside(Town(1)).things, 40)
        self.refused(TooMany("things", 40), Town(39).beside, Town(2))
        self.refused(TooMany("things", 40), Town(40).beside, Town(1))
        for value in STRANGE + (2, [2], (2, ()), Book([1])):
            self.refused(BadTown("other"), Town(40).beside, value)


class TestHolds(Asking):
    def test_as_looks_go_through_all_things(self):
        chance = random.Random(94)
        answers = []
        for text in made_questions(500, seed=95):
            things = chance.randint(1, 6)
            ties = made_ties(chance, things)
            town = Town(things, ties)
            told = holds(town, Question.read(text))
            self.exactly(told, plain_holds(things, town.ties, text))
            answers.append((told, things > 1 and "tied" in text))
        for one in (True, False):
            self.assertGreater(answers.count((one, True)), 60)

    def test_known(self):
        row = Town(4, [(1, 0), [1, 2]])
        for text, told in (
            ("some x all y not tied x y", True), ("all x some y tied x y", False), ("some x tied x x", False),
            ("all x same x x", True), ("some x some x tied x x", False), ("some x some y and tied x y some x not tied x y", True),
            ("some x all x same x x", True), ("all x all y same x y", False),
            ("and some x all y not tied x y some x some y tied x y", True),
        ):
            self.exactly(holds(row, Question.read(text)), told)
        self.exactly(holds(question=Question.read("all x all y same x y"), town=Town(1)), True)

    def test_a_name_put_anew_within_a_look_at_the_same_name(self):
        # Within the inner look x is another thing, behind it the outer one again.
        text = "some x and some x not same x y tied x y".replace("some x and", "some y some x and", 1)
        for things, ties in ((2, [(0, 1)]), (2, []), (1, [])):
            self.exactly(holds(Town(things, ties), Question.read(text)), plain_holds(things, ties, text))

    def test_answers_of_questions_made_of_others(self):
        chance = random.Random(96)
        texts = made_questions(60, seed=97, room=19)
        for text, more in zip(texts, reversed(texts)):
            things = chance.randint(1, 5)
            town = Town(things, made_ties(chance, things))
            one, other = Question.read(text), Question.read(more)
            told, its = holds(town, one), holds(town, other)
            self.exactly(holds(town, one.negated()), not told)
            self.exactly(holds(town, one.both(other)), told and its)
            self.exactly(holds(town, one.either(other)), told or its)
            self.exactly(holds(town, one.renamed([("x", "y"), ("y", "z"), ("z", "x")])), told)

    def test_forty_things_are_quick(self):
        chance = random.Random(98)
        towns = [Town(40, made_ties(chance, 40)) for _ in range(3)] + [Town(40), Town(40, [(at, at + 1) for at in range(39)])]
        texts = made_questions(30, seed=99) + [
            "all x all y all z " + "or tied x x " * 7 + "same z z",
            "not some x some y some z " + "and same x x " * 7 + "tied z z",
            "all x all y or tied x y or same x y some z and not tied x z and not same x z not tied y z",
        ]

        def all_answers():
            return [holds(town, Question.read(text)) for town in towns for text in texts]

        answers = self.quick(all_answers)
        self.exactly({type(one) for one in answers}, {bool})

    def test_a_row_of_forty(self):
        row = Town(40, [(at, at + 1) for at in range(39)])
        end = "some x and some y tied x y all y all z or same y z not and tied x y tied x z"
        self.exactly(holds(row, Question.read(end)), True)
        ring = Town(40, [(at, (at + 1) % 40) for at in range(40)])
        self.exactly(holds(ring, Question.read(end)), False)
        self.exactly(holds(ring, Question.read("some x some y some z and tied x y and tied y z tied x z")), False)

    def test_refused(self):
        free, four = Question.read("tied x y"), Question.read("some x some x some x some x tied x x")
        for value in STRANGE + (4, "4", (4, ()), Book([1])):
            self.refused(BadTown("town"), holds, value, value)
        for value in STRANGE + ("some x tied x x", Town(1)):
            self.refused(BadQuestion("question"), holds, Town(1), value)
        self.refused(Misfit("free"), holds, Town(1), free)
        self.refused(Misfit("free"), holds, Town(1), four.both(free))
        self.refused(TooMany("looks", 3), holds, Town(1), four)
        self.exactly(holds(Town(1), Question.read("some x some x some x not tied x x")), True)


if __name__ == "__main__":
    unittest.main()
