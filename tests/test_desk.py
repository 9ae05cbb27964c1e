"""The desk: told, tried and asked, taken back and done again; stories."""

import unittest

from tests.asking import STRANGE, Asking
from tests.bending import fixed_chance
from tests.lines import ASK_TABLE, DEED_TABLE, first_of, made_line
from thincoins.books import Book
from thincoins.desk import Desk
from thincoins.desk_asks import answer_of
from thincoins.desk_deeds import changed
from thincoins.errors import BadDesk, BadLine, BadNumber, BadText, NoName, Nothing, ThinError, Twice
from thincoins.shelves import Shelf
from thincoins.stories import parting, replay
from thincoins.webs import Web

DEED_WORDS = tuple(first_of(row) for row in DEED_TABLE)
ASK_WORDS = tuple(first_of(row) for row in ASK_TABLE)
BEGIN = ("book 2 : 0 0 1", "way w 2", "tie w 0 2 0", "drop w")


def made_lines(chance, many):
    """Lines of all forms, right ones, such as will be refused, and such as are none."""
    lines = ["book 5 : 0 0 3", "way a 2", "tied b 3"]
    for _ in range(many):
        word = chance.choice(DEED_WORDS * 3 + ASK_WORDS)
        lines.append(chance.choice((made_line(chance, word),) * 9 + (word, "undo", 5)))
    return lines


class Plain:
    """A desk told in a plain way: its story, and the lines taken back; its shelf is told anew each time."""

    def __init__(self):
        self.story, self.back = [], []

    def shelf(self):
        """The shelf behind the story."""
        shelf = Shelf()
        for line in self.story:
            shelf, _ = changed(shelf, line)
        return shelf

    def call(self, line):
        """The answer, or the error."""
        try:
            if isinstance(line, str) and line.split(" ")[0] in DEED_WORDS:
                _, answer = changed(self.shelf(), line)
                self.story, self.back = self.story + [line], []
                return answer
            return answer_of(self.shelf(), line)
        except ThinError as error:
            return error


class TestDesk(Asking):
    def same(self, desk, shelf, story):
        """The desk must keep this, with this story."""
        self.assertTrue(desk.shelf == shelf)
        self.exactly(desk.story, tuple(story))
        self.exactly(len(desk), len(shelf.webs))

    def error_of(self, call, *told):
        """The error of the call."""
        with self.assertRaises(ThinError) as caught:
            call(*told)
        return caught.exception

    def test_a_new_one(self):
        desk = Desk()
        self.same(desk, Shelf(), ())
        self.assertTrue(desk == Desk())
        self.exactly((desk.told(), desk.tried(), desk("names")), ((), (), "-"))
        self.refused(Nothing(), desk.undo)
        self.refused(Nothing(), desk.redo)
        self.refused(Nothing(), desk, "told")

    def test_told_line_by_line(self):
        desk = Desk()
        self.exactly(desk.told(*BEGIN), ("1", "2", "3", "0"))
        self.same(desk, Shelf(Book([2], [(0, 0, 1)])), BEGIN)
        self.exactly(desk.told("names", "way w 1", "names", "size 0 2"), ("-", "1", "w", "2"))
        # A line that changes nothing is in the story, too; an ask is not.
        self.same(desk, Shelf(Book([2], [(0, 0, 1)]), [("w", Web.way(1))]), BEGIN + ("way w 1", "size 0 2"))

    def test_as_a_plain_one(self):
        chance = fixed_chance()
        seen = {}
        for _ in range(20):
            desk, plain = Desk(), Plain()
            for line in made_lines(chance, 80):
                wanted = plain.call(line)
                if isinstance(wanted, ThinError):
                    self.refused(wanted, desk, line)
                    self.refused_in_line(desk, line, wanted)
                else:
                    self.exactly(desk.tried(line), (wanted,))
                    self.exactly(desk(line) if chance.random() < 0.5 else desk.told(line)[0], wanted)
                self.step_back_and_forth(chance, desk, plain)
                self.same(desk, plain.shelf(), plain.story)
                word = str(line).split(" ")[0]
                seen[word] = seen.get(word, False) or not isinstance(wanted, ThinError)
        self.assertTrue(all(seen[word] for word in DEED_WORDS), seen)
        self.assertGreater(sum(seen.get(word, False) for word in ASK_WORDS), 12)

    def refused_in_line(self, desk, line, wanted):
        """Both told and tried must tell the index of the line, and change nothing."""
        for call in (desk.told, desk.tried):
            got = self.error_of(call, "names", "way zzz 1", line)
            told = self.error_of(call, "names", "way zzz 1", "drop zzz", line)
            self.exactly((type(got), got.line, type(told), told.line), (BadLine, 2, BadLine, 3))
            self.assertEqual((type(told.error), vars(told.error)), (type(wanted), vars(wanted)))

    def step_back_and_forth(self, chance, desk, plain):
        """Takes back and does again as it falls."""
        for _ in range(chance.randint(0, 2)):
            if chance.random() < 0.5:
                if not plain.story:
                    self.refused(Nothing(), desk.undo)
                else:
                    plain.back.append(plain.story.pop())
                    self.exactly(desk.undo(), plain.back[-1])
            elif not plain.back:
                self.refused(Nothing(), desk.redo)
            else:
                plain.story.append(plain.back.pop())
                self.exactly(desk.redo(), plain.story[-1])

    def test_an_error_changes_nothing(self):
        desk = Desk()
        desk.told(*BEGIN[:2])
        desk.undo()
        twin = desk.twin()
        self.refused(NoName("v"), desk, "drop v")
        self.refused(BadText(0, 1), desk, "drop")
        got = self.error_of(desk.told, "way v 1", "drop v", "ring v 3", "ring v 4", "drop q")
        self.exactly((got.line, type(got.error), got.error.value), (3, Twice, "v"))
        self.same(desk, twin.shelf, twin.story)
        self.exactly(desk.redo(), "way w 2")

    def test_lines_of_any_kind(self):
        desk = Desk()
        for value in STRANGE + (["names"], b"names", Web([0])):
            self.refused(BadText(0, 0), desk, value)
            for call in (desk.told, desk.tried):
                got = self.error_of(call, "names", value)
                self.exactly((got.line, type(got.error), vars(got.error)), (1, BadText, {"line": 0, "item": 0}))
        self.same(desk, Shelf(), ())

    def test_tried_changes_nothing(self):
        desk = replay(BEGIN)
        desk.undo()
        self.exactly(desk.tried("drop w", "names", "way w 5", "show w"), ("0", "-", "5", str(Web.way(5))))
        self.same(desk, Shelf(Book([2], [(0, 0, 1)]), [("w", Web.ring(3))]), BEGIN[:3])
        got = self.error_of(desk.tried, "drop w", "drop w")
        self.exactly((got.line, type(got.error)), (1, NoName))
        self.exactly(desk.redo(), "drop w")

    def test_what_can_be_done_again(self):
        for between, lost in (
            (lambda desk: desk("names"), False), (lambda desk: desk.told("names", "told"), False), (lambda desk: desk.told(), False),
            (lambda desk: desk.tried("way q 1"), False), (lambda desk: self.error_of(desk, "drop q"), False),
            (lambda desk: self.error_of(desk.told, "way q 1", "drop p"), False), (lambda desk: desk.twin()("way q 1"), False),
            (lambda desk: desk("size 0 2"), True), (lambda desk: desk.told("way q 1"), True), (lambda desk: len(desk) + ("w" in desk), False),
        ):
            desk = replay(BEGIN)
            self.exactly([desk.undo(), desk.undo()], ["drop w", "tie w 0 2 0"])
            between(desk)
            if lost:
                self.refused(Nothing(), desk.redo)
            else:
                self.exactly([desk.redo(), desk.redo()], ["tie w 0 2 0", "drop w"])
                self.same(desk, Shelf(Book([2], [(0, 0, 1)])), BEGIN)
                self.refused(Nothing(), desk.redo)

    def test_all_the_way_back_and_again(self):
        desk = replay(BEGIN)
        self.exactly([desk.undo() for _ in BEGIN], list(reversed(BEGIN)))
        self.refused(Nothing(), desk.undo)
        self.same(desk, Shelf(), ())
        self.exactly([desk.redo() for _ in BEGIN], list(BEGIN))
        self.refused(Nothing(), desk.redo)
        self.same(desk, replay(BEGIN).shelf, BEGIN)

    def test_twins(self):
        desk = replay(BEGIN)
        desk.undo()
        twin = desk.twin()
        self.same(twin, desk.shelf, desk.story)
        self.assertTrue(twin == desk and isinstance(twin, Desk))
        twin("way q 1")
        self.exactly((len(desk), desk.redo(), len(twin), twin.story[-1]), (1, "drop w", 2, "way q 1"))
        again = desk.twin()
        desk.undo()
        self.exactly((again.story, len(again)), (BEGIN, 0))
        self.exactly(desk.twin().redo(), "drop w")
        self.exactly(desk.redo(), "drop w")

    def test_names_in_it(self):
        desk = replay(["web b 0 : -", "web a 0 : -"])
        self.exactly(["a" in desk, "b" in desk, "c" in desk, len(desk)], [True, True, False, 2])
        for value in STRANGE + (0, ["a"], ("a", Web([0])), Web([0]), "A", "ab"):
            self.assertIs(value in desk, False)

    def test_equality(self):
        one, other = replay(["way a 1", "drop a"]), Desk()
        self.assertTrue(one == other)
        self.assertFalse(one != other)
        for value in (replay(["way a 1"]), replay(["book 1 : -"]), Shelf(), None, 0, "", ()):
            self.assertFalse(other == value)
            self.assertFalse(value == other)
            self.assertTrue(other != value)
        self.assertFalse(replay(["way a 1", "way b 1"]) == replay(["way b 1", "way a 1"]))

    def test_many_lines_are_quick(self):
        lines = [f"way n{at} {at % 6}" for at in range(600)]

        def told_and_back():
            desk = replay(lines)
            return [desk.undo() for _ in lines], desk

        told, desk = self.quick(told_and_back)
        self.exactly((told[0], len(told), len(desk)), (lines[-1], 600, 0))


class TestStories(Asking):
    def test_replay(self):
        desk = replay(list(BEGIN))
        self.exactly(desk.story, BEGIN)
        self.assertTrue(desk == replay(lines=BEGIN) and isinstance(desk, Desk))
        self.exactly([replay([]).story, replay(()).story], [(), ()])
        self.exactly(desk.undo(), BEGIN[-1])
        lines = list(BEGIN)
        desk = replay(lines)
        lines.clear()
        self.exactly(desk.story, BEGIN)

    def test_refused(self):
        for value in STRANGE + ("way a 1", 5, [5], ["way a 1", None], [b"way a 1"], ["drop q", ["names"]], {"way a 1": 1}, iter(())):
            self.refused(BadDesk("lines"), replay, value)

    def test_the_first_line_that_is_refused(self):
        for lines, at, error in (
            (["way a 1", "names"], 1, BadText(0, 0)), (["names x y"], 0, BadText(0, 0)), (["way a 1", "way a", "names"], 1, BadText(0, 2)),
            (["way a 1", "told 1", "way a"], 1, BadText(0, 0)), (["drop a", "names"], 0, NoName("a")), (["nothing"], 0, BadText(0, 0)),
            (["way a 1", "way a 1"], 1, Twice("a")), (["size 0 1"], 0, Nothing()), (["way a 6"], 0, BadNumber("ties")),
            (["way a 1", "", "drop q"], 1, BadText(0, 0)), (["way a 1", "drop a", "asked"], 2, BadText(0, 0)),
        ):
            with self.subTest(lines=lines):
                with self.assertRaises(BadLine) as caught:
                    replay(lines)
                got = caught.exception
                self.assertEqual((got.line, type(got.error), vars(got.error)), (at, type(error), vars(error)))

    def test_parting(self):
        one, other = replay(BEGIN), replay(BEGIN[:2] + ("drop w",))
        self.exactly([parting(one, other), parting(other=one, one=other), parting(one, one), parting(one, Desk())], [2, 2, 4, 0])
        one.undo()
        self.exactly([parting(one, replay(BEGIN)), parting(Desk(), Desk())], [3, 0])
        for value in STRANGE + (Shelf(), ("way a 1",), Book([1])):
            self.refused(BadDesk("one"), parting, value, value)
            self.refused(BadDesk("other"), parting, one, value)


if __name__ == "__main__":
    unittest.main()
