"""Questions: their texts, what they keep, and those made of others."""

import unittest

from tests.asked import made_questions
from tests.asking import STRANGE, Asking
from tests.bending import ODD, bent, fixed_chance, wrong_item
from thincoins.errors import BadQuestion, BadText, Misfit, TooMany, Twice
from thincoins.questions import Question
from thincoins.towns import Town

WORDS = ("tied", "same", "not", "and", "or", "some", "all", "x", "y", "z")
ODD_ITEMS = ODD + WORDS + ("w", "X", "Tied", "xy", "some\n", "ties") + WORDS
ATOM = " tied x x"
ENDS = [names + ATOM * many for names in ("", " x", " x x") for many in range(14)]
# Forty items: a look, nine joints and ten atoms, but for one not.
FULL = "some x " + "and tied x x " * 8 + "not not not tied x x"
LONG = FULL.replace("some x ", "some x not not ")


def is_right(text):
    """Whether the text is one of a question, counted from its front."""
    need, names = 1, 0
    items = text.split(" ")
    if len(items) > 40:
        return False
    for item in items:
        if names:
            if item not in ("x", "y", "z"):
                return False
            names -= 1
            continue
        if not need or item not in WORDS[:7]:
            return False
        need += {"tied": -1, "same": -1, "and": 1, "or": 1}.get(item, 0)
        names = {"tied": 2, "same": 2, "some": 1, "all": 1}.get(item, 0)
    return need == 0 and names == 0


class TestReading(Asking):
    def test_read_and_written_back(self):
        for text in made_questions(200) + ["tied x x", "same z y", "some x tied y z", FULL]:
            question = Question.read(text)
            self.exactly(str(question), text)
            self.assertTrue(question == Question.read(text=text))
        self.exactly(len(FULL.split(" ")), 40)
        self.exactly(str(Question.read("tied x y").read("same x z")), "same x z")

    def test_no_string(self):
        for value in STRANGE + (["tied", "x", "x"], ("tied x x",), b"tied x x", Question.read("tied x x")):
            if not isinstance(value, str):
                self.refused(BadText(0, 0), Question.read, value)

    def test_known_faults(self):
        for text, item in (
            ("", 0), (" ", 0), ("x", 0), ("tied", 1), ("tied x", 2), ("tied x w", 2), ("tied x x x", 3), ("tied x x ", 3),
            ("some", 1), ("some x", 2), ("some x x", 2), ("some tied x x", 1), ("not", 1), ("and tied x x", 4), ("all xy", 1),
            ("or tied x x same y", 6), (" tied x x", 0), ("tied  x x", 1), ("tied x x\n", 2), ("Some x tied x x", 0),
            ("tied x X", 2), ("and and and", 3), ("and tied x x same x y z", 7), ("or not", 2), ("0", 0), ("tied 0 0", 1),
        ):
            with self.subTest(text=text):
                self.refused(BadText(0, item), Question.read, text)

    def test_forty_items_and_more(self):
        self.exactly(len(LONG.split(" ")), 42)
        # Behind both a not is one too many: all that follows needs its own places.
        self.refused(BadText(0, 37), Question.read, LONG)
        self.exactly(len(str(Question.read("not " * 37 + "tied x x")).split(" ")), 40)
        self.refused(BadText(0, 37), Question.read, "not " * 38 + "tied x x")
        self.refused(BadText(0, 37), Question.read, "not " * 37 + "some x tied x x")
        self.exactly(Question.read("not " * 35 + "some x tied x x").looks, 1)
        self.refused(BadText(0, 36), Question.read, "not " * 36 + "some x tied x x")
        self.refused(BadText(0, 34), Question.read, "not " * 34 + "or tied x x tied x x")
        self.exactly(Question.read("not " * 33 + "or tied x x tied x x").looks, 0)
        # Nine joints need ten questions of three items: 39 in all, so one not may stand, and no tenth joint.
        self.exactly(len(str(Question.read("and " * 9 + "not " + ATOM[1:] + ATOM * 9)).split(" ")), 40)
        self.refused(BadText(0, 9), Question.read, "and " * 10 + ATOM[1:] + ATOM * 10)
        self.refused(BadText(0, 10), Question.read, "and " * 9 + "not not" + ATOM * 10)
        self.refused(BadText(0, 9), Question.read, "and " * 9 + "some x" + ATOM * 10)
        self.refused(BadText(0, 40), Question.read, FULL + " x")
        self.refused(BadText(0, 40), Question.read, FULL + " ")
        self.refused(BadText(0, 37), Question.read, "not " * 4000 + "tied x x")

    def test_bent_texts(self):
        chance = fixed_chance()
        texts = made_questions(30, seed=92, room=20) + [FULL, "tied x x", "and " * 9 + "not" + ATOM * 10, "not " * 37 + "tied x x"]
        for text in texts:
            self.assertTrue(is_right(text))
            for told in bent(text, chance, ODD_ITEMS):
                item = wrong_item(told, is_right, ENDS)
                with self.subTest(text=told):
                    if item is None:
                        self.exactly(str(Question.read(told)), told)
                    else:
                        self.refused(BadText(0, item), Question.read, told)


class TestAttributes(Asking):
    def test_free_looks_closed(self):
        for text, free, looks in (
            ("tied x y", ("x", "y"), 0), ("same z z", ("z",), 0), ("some x tied x y", ("y",), 1), ("some x tied x x", (), 1),
            ("and some x tied x x same x z", ("x", "z"), 1), ("all z all y some x tied x y", (), 3),
            ("not or some x some y tied x y tied z y", ("y", "z"), 2), ("some x some x tied x x", (), 2),
            ("some y tied x x", ("x",), 1), ("all x all y or same x y some z and tied x z tied y z", (), 3),
            ("and all x tied x x all x all y all z all x same x y", (), 4), ("or tied z x tied y x", ("x", "y", "z"), 0),
        ):
            question = Question.read(text)
            self.exactly((question.free, question.looks, question.is_closed), (free, looks, free == ()))

    def test_equality(self):
        one = Question.read("some x tied x x")
        self.assertTrue(one == Question.read("some x tied x x"))
        self.assertFalse(one != Question.read("some x tied x x"))
        for other in (Question.read("some y tied y y"), Question.read("some x same x x"), "some x tied x x", None, 1, Town(1)):
            self.assertFalse(one == other)
            self.assertFalse(other == one)
            self.assertTrue(one != other)


class TestMadeOfOthers(Asking):
    def setUp(self):
        self.near = Question.read("some y and tied x y not same x y")

    def test_negated_both_either(self):
        other = Question.read("tied z x")
        self.exactly(str(self.near.negated()), "not " + str(self.near))
        self.exactly(str(self.near.both(other)), "and some y and tied x y not same x y tied z x")
        self.exactly(str(other.either(other=self.near)), "or tied z x some y and tied x y not same x y")
        self.exactly((self.near.both(other).free, self.near.both(other).looks), (("x", "z"), 1))
        self.exactly((self.near.negated().looks, self.near.negated().free), (1, ("x",)))
        self.exactly(str(self.near), "some y and tied x y not same x y")

    def test_what_is_made_is_as_what_is_read(self):
        texts = made_questions(40, seed=93, room=19)
        for text, more in zip(texts, reversed(texts)):
            one, other = Question.read(text), Question.read(more)
            for made in (one.negated(), one.both(other), one.either(other), one.renamed([("x", "z"), ("z", "x")])):
                told = Question.read(str(made))
                self.assertTrue(made == told)
                self.exactly((made.free, made.looks, made.is_closed), (told.free, told.looks, told.is_closed))

    def test_forty_items(self):
        full, less = Question.read(FULL), Question.read("not " * 36 + "tied x x")
        self.exactly(len(str(less.negated()).split(" ")), 40)
        self.refused(TooMany("items", 40), full.negated)
        left, right = Question.read("not " * 16 + "tied x x"), Question.read("not " * 17 + "tied x x")
        for call in (left.both, left.either):
            self.exactly(len(str(call(right)).split(" ")), 40)
        for call in (right.both, right.either):
            self.refused(TooMany("items", 40), call, right)
        for call in (full.both, full.either):
            self.refused(TooMany("items", 40), call, Question.read("tied x x"))

    def test_refused(self):
        full = Question.read(FULL)
        for value in STRANGE + ("tied x x", ["tied", "x", "x"], Town(1)):
            for call in (full.both, full.either):
                self.refused(BadQuestion("other"), call, value)


class TestRenamed(Asking):
    def test_all_at_once(self):
        near = Question.read("some y and tied x y not same x z")
        for pairs, text in (
            ([], "some y and tied x y not same x z"), ((("x", "y"), ("y", "x")), "some x and tied y x not same y z"),
            ([("x", "y"), ["y", "z"], ("z", "x")], "some z and tied y z not same y x"), ([("x", "x")], str(near)),
            ([["z", "y"], ["y", "z"]], "some z and tied x z not same x y"), ([("y", "y"), ("x", "z"), ("z", "x")],
                                                                            "some y and tied z y not same z x"),
        ):
            self.exactly(str(near.renamed(pairs)), text)
            self.exactly(str(near.renamed(pairs=tuple(pairs))), text)
        self.exactly(near.renamed([("x", "z"), ("z", "x")]).free, ("x", "z"))
        self.exactly(str(near), "some y and tied x y not same x z")
        self.exactly(str(Question.read("some x some x tied x y").renamed([("x", "y"), ("y", "x")])), "some y some y tied y x")

    def test_no_pairs(self):
        near = Question.read("tied x y")
        for value in STRANGE + ("xy", {"x": "y"}, [None]):
            self.refused(BadQuestion("pairs"), near.renamed, value)
        for pair in ("xy", ("x",), (), ("x", "y", "z"), ("x", "w"), ("", "x"), ("x", None), (1, 2), (True, "x"), ("X", "y"),
                     [["x"], "y"], ("x", ["y"]), ("xy", "z"), {"x": 1, "y": 2}, None, 3):
            self.refused(BadQuestion("pairs"), near.renamed, [pair])
            # A pair that is none comes ahead of a name that stands twice.
            self.refused(BadQuestion("pairs"), near.renamed, [("x", "y"), ("x", "y"), pair])

    def test_errors_in_their_order(self):
        near = Question.read("tied x y")
        self.refused(Twice("y"), near.renamed, [("x", "y"), ("y", "y"), ("y", "x"), ("x", "y")])
        self.refused(Twice("x"), near.renamed, [("x", "y"), ("x", "y")])
        self.refused(Misfit("pairs"), near.renamed, [("x", "y")])
        self.refused(Misfit("pairs"), near.renamed, [("x", "z"), ("y", "z")])
        # z is not in the question, but it is one of the names.
        self.refused(Misfit("pairs"), near.renamed, [("x", "z")])
        self.refused(Misfit("pairs"), near.renamed, [("x", "y"), ("y", "z")])


if __name__ == "__main__":
    unittest.main()
