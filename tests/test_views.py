"""Views of towns, any views, and questions answered by them."""

import itertools
import random
import unittest

from tests.asked import made_questions, made_ties, pattern_questions, plain_by_views, plain_holds, plain_views
from tests.asking import STRANGE, Asking
from thincoins.books import Book
from thincoins.errors import BadLot, BadQuestion, BadTown, Misfit, TooMany
from thincoins.papers import fixed
from thincoins.questions import Question
from thincoins.towns import Town, holds
from thincoins.views import answer, are_views, views_of_town

LOTS = [lot for size in range(5) for lot in itertools.combinations(range(4), size)]
SIGHTS = sorted((tied, lot) for tied in (0, 1) for lot in LOTS)


def made_views(chance, most=5):
    """Any views, whether or not a town has them."""
    views = {tuple(sorted(chance.sample(SIGHTS, chance.randint(0, most)))) for _ in range(chance.randint(1, most))}
    return tuple(sorted(views))


def as_lists(value):
    """The value with lists in the place of tuples."""
    return [as_lists(one) for one in value] if isinstance(value, tuple) else value


class TestViewsOfTown(Asking):
    def test_as_told(self):
        chance = random.Random(111)
        for _ in range(200):
            things = chance.randint(1, 8)
            town = Town(things, made_ties(chance, things))
            told = views_of_town(town)
            self.exactly(told, plain_views(things, town.ties))
            self.assertIs(are_views(told), True)

    def test_small_towns(self):
        self.exactly(views_of_town(Town(1)), ((),))
        self.exactly(views_of_town(Town(2, [(0, 1)])), (((1, ()),),))
        self.exactly(views_of_town(town=Town(3)), (((0, (0,)),),))
        self.exactly(views_of_town(Town(3, [(0, 1), (0, 2), (1, 2)])), (((1, (3,)),),))

    def test_forty_things(self):
        chance = random.Random(112)
        for town in (Town(40, made_ties(chance, 40)), Town(40), Town(40, [(at, at + 1) for at in range(39)])):
            self.exactly(self.quick(views_of_town, town), plain_views(40, town.ties))

    def test_the_numbers_of_things_play_no_part(self):
        chance = random.Random(113)
        for _ in range(50):
            things = chance.randint(2, 7)
            ties, places = made_ties(chance, things), chance.sample(range(things), things)
            moved = [(places[one], places[other]) for one, other in ties]
            self.exactly(views_of_town(Town(things, ties)), views_of_town(Town(things, moved)))

    def test_refused(self):
        for value in STRANGE + (3, (3, ()), Book([3])):
            self.refused(BadTown("town"), views_of_town, value)


class TestAreViews(Asking):
    def test_right_ones(self):
        chance = random.Random(114)
        for _ in range(200):
            views = made_views(chance)
            self.assertIs(are_views(views), True)
            self.assertIs(are_views(as_lists(views)), True)
        self.assertIs(are_views([SIGHTS]), True)
        self.assertIs(are_views(value=([], [(0, [])])), True)
        # Lists and tuples stand beside one another as if they were one.
        self.assertIs(are_views([[(0, [0])], ([1, (0,)],)]), True)
        self.assertIs(are_views([[(1, [0])], ([0, (0,)],)]), False)

    def test_one_to_forty(self):
        views = sorted((sight,) for sight in SIGHTS) + sorted((SIGHTS[0], sight) for sight in SIGHTS[1:])
        views = sorted(views)
        self.exactly([are_views(views[:many]) for many in (0, 1, 39, 40, 41)], [False, True, True, True, False])

    def test_wrong_ones(self):
        for value in STRANGE + ((), [], "()", [None], [()] * 2, [[], []], [[], ()], 7, [7], ["01"], [{}], [{0: 1}], [[]] * 2):
            self.assertIs(are_views(value), False)
        for sight in (
            (0,), (), (0, (), ()), (2, ()), (-1, ()), (True, ()), (False, ()), (0, None), (0, 3), (0, (4,)), (0, (-1,)), (0, (1, 0)),
            (0, (1, 1)), (0, (True,)), (0, (0, True)), (0.0, ()), (0, "0"), "01", None, (0, {0: 1}), (0, [[0]]), {0: (), 1: ()}, 5,
        ):
            self.assertIs(are_views([[sight]]), False, sight)
        low, high = (0, (0, 1)), (0, (0, 2))
        self.exactly([are_views([[low, high]]), are_views([[high, low]]), are_views([[low, low]])], [True, False, False])
        self.exactly([are_views([[low, list(low)]]), are_views([[low], [list(low)]])], [False, False])
        self.exactly([are_views([[low], [high]]), are_views([[high], [low]]), are_views([[low], []])], [True, False, False])

    def test_what_is_passed_stays(self):
        views = [[[0, [0, 1]]], [[1, [2]]]]
        self.assertIs(are_views(views), True)
        answer(views, Question.read("all x same x x"))
        self.exactly(views, [[[0, [0, 1]]], [[1, [2]]]])


class TestAnswer(Asking):
    def test_as_placings_tell(self):
        chance = random.Random(115)
        answers = []
        for text in made_questions(500, seed=116):
            views = made_views(chance, 3)
            told = answer(views, Question.read(text))
            self.exactly(told, plain_by_views(views, text))
            self.exactly(answer(as_lists(views), Question.read(text)), told)
            answers.append(told)
        self.assertGreater(min(answers.count(True), answers.count(False)), 100)

    def test_as_towns_answer(self):
        chance = random.Random(117)
        for text in made_questions(200, seed=118):
            things = chance.randint(1, 6)
            town, question = Town(things, made_ties(chance, things)), Question.read(text)
            self.exactly(answer(views_of_town(town), question), plain_holds(things, town.ties, text))
            self.exactly(holds(town, question), answer(views_of_town(town), question))

    def test_three_things_in_all_patterns(self):
        chance = random.Random(130)
        for text in pattern_questions():
            things = chance.randint(3, 7)
            town, views = Town(things, made_ties(chance, things)), made_views(chance, 3)
            self.exactly(holds(town, Question.read(text)), plain_holds(things, town.ties, text))
            self.exactly(answer(views, Question.read(text)), plain_by_views(views, text))

    def test_a_third_is_as_the_first_two_stand(self):
        # No town has this view alone: its thirds are tied to the other one, but no sight is.
        views = [[(0, [1])]]
        for text, told in (
            ("some x some y tied x y", False), ("some x some y some z tied y z", True), ("some x some y some z tied x z", False),
            ("some x some y some x tied x y", True), ("some x some x some z tied x z", True),
            ("some x all y all z not tied y z", False), ("all x some y all z or same z x or same z y tied y z", True),
        ):
            self.exactly(answer(views, Question.read(text)), told)

    def test_one_thing_alone(self):
        for text in made_questions(40, seed=119):
            self.exactly(answer([[]], Question.read(text)), plain_holds(1, [], text))

    def test_forty_views_are_quick(self):
        chance = random.Random(120)
        views = sorted(tuple(sorted(set(SIGHTS) - {one})) for one in SIGHTS)
        views = sorted(views + [tuple(SIGHTS)] + [tuple(SIGHTS[:at]) for at in range(20, 27)])
        self.exactly(len(views), 40)
        texts = ["all x all y all z " + "or tied x x " * 7 + "same z z", "not some x some y some z " + "and same x x " * 7 + "tied z z"]
        self.exactly(self.quick(lambda: [answer(views, Question.read(text)) for text in texts]), [True, True])

    def test_refused(self):
        free, four = Question.read("tied x y"), Question.read("some x some x some x some x tied x x")
        for value in STRANGE + ((), [[], []], Town(1), [(0, ())]):
            self.refused(BadLot("views"), answer, value, value)
        for value in STRANGE + ("all x same x x", Town(1)):
            self.refused(BadQuestion("question"), answer, [[]], value)
        self.refused(Misfit("free"), answer, [[]], free)
        self.refused(Misfit("free"), answer, [[]], four.both(free))
        self.refused(TooMany("looks", 3), answer, [[]], four)
        self.exactly(answer(question=Question.read("all x same x x"), views=fixed([[]])), True)


if __name__ == "__main__":
    unittest.main()
