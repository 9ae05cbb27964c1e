"""Shelves, and what lines change and answer of them."""

import unittest

from tests.asking import STRANGE, Asking
from tests.bending import fixed_chance
from tests.lines import ASK_TABLE, DEED_TABLE, WANT_BOOK, first_of, forms_of, made_line
from tests.making import made_book, made_web
from thincoins.books import Book
from thincoins.desk import Desk
from thincoins.desk_asks import answer_of
from thincoins.desk_deeds import changed
from thincoins.dials import dial
from thincoins.errors import (
    BadBook, BadDesk, BadLot, BadNumber, BadText, Impossible, Misfit, NoKind, NoName, NoPoint, NoSort, NoTie, Nothing, TooMany,
    Twice,
)
from thincoins.farthest import farthest
from thincoins.friends import friends
from thincoins.handings import comes
from thincoins.heavy import fewest_struck, heavy_parts
from thincoins.hulls import hull
from thincoins.layings import alike, many_layings
from thincoins.moments import at_least, at_most
from thincoins.mutual import mutual
from thincoins.named import everywhere
from thincoins.questions import Question
from thincoins.shelves import Shelf
from thincoins.thinside import TreesBreak, greatest_tree
from thincoins.threelooks import DialBreak, verdict
from thincoins.webs import Web
from thincoins.weights import weight

BOOK, THREE, WAY = Book([11], [(0, 0, 7)]), Web.all_tied(3), Web.way(2)
SHELF = Shelf(BOOK, [("three", THREE), ("way", WAY), ("lone", Web([0])), ("far", Web([1]))])
DEED_WORDS = tuple(first_of(row) for row in DEED_TABLE)
ASK_WORDS = tuple(first_of(row) for row in ASK_TABLE)


class TestShelf(Asking):
    def test_attributes(self):
        self.exactly((Shelf().book, Shelf().webs, Shelf().names), (None, (), ()))
        shelf = Shelf(webs=[["b", THREE], ("a", WAY)], book=BOOK)
        self.assertTrue(shelf.book == BOOK and shelf.webs == (("b", THREE), ("a", WAY)))
        self.exactly((type(shelf.webs), [type(pair) for pair in shelf.webs], shelf.names), (tuple, [tuple, tuple], ("b", "a")))
        self.assertTrue(shelf.web("a") == WAY and shelf.web(name="b") == THREE)

    def test_refused_in_order(self):
        for value in STRANGE + ("2 : -", [2], Web([0])):
            if value is not None:
                self.refused(BadBook("book"), Shelf, value, value)
        for value in STRANGE + ("a", {"a": THREE}, 5, [None], [("a",)], [("a", THREE, 1)], [("A", THREE)], [("", THREE)],
                                [("a" * 13, THREE)], [("a", "0 : -")], [("a", BOOK)], [(THREE, "a")], [(1, THREE)], ["ab"]):
            self.refused(BadDesk("webs"), Shelf, None, value)
        self.refused(BadDesk("webs"), Shelf, None, [("a", THREE), ("a", THREE), ("b", None)])
        self.refused(Twice("b"), Shelf, BOOK, [("a", THREE), ("b", THREE), ("b", WAY), ("a", WAY)])
        self.refused(Twice("a"), Shelf, None, (["a", THREE], ["b", WAY], ["a", THREE]))

    def test_no_name(self):
        for value in STRANGE + ("four", "Three", ["three"], ("three",), THREE, 0):
            self.refused(NoName(value), SHELF.web, value)
        self.refused(NoName("a"), Shelf().web, "a")

    def test_what_is_passed_may_be_changed(self):
        pair = ["a", THREE]
        pairs = [pair]
        shelf = Shelf(None, pairs)
        pair[0] = "b"
        pairs.append(("c", WAY))
        self.exactly(shelf.names, ("a",))
        self.assertTrue(shelf.webs == (("a", THREE),))

    def test_equality(self):
        one = Shelf(BOOK, [("a", THREE), ("b", WAY)])
        self.assertTrue(one == Shelf(Book([11], [(0, 0, 7)]), (["a", Web.all_tied(3)], ["b", Web.way(2)])))
        self.assertFalse(one != Shelf(BOOK, [("a", THREE), ("b", WAY)]))
        for other in (Shelf(None, one.webs), Shelf(BOOK, one.webs[:1]), Shelf(BOOK, [("b", WAY), ("a", THREE)]),
                      Shelf(BOOK, [("a", THREE), ("c", WAY)]), Shelf(BOOK, [("a", WAY), ("b", WAY)]), Shelf(Book([11]), one.webs),
                      BOOK, None, (BOOK, one.webs), Desk()):
            self.assertFalse(one == other)
            self.assertFalse(other == one)
            self.assertTrue(one != other)
        self.assertTrue(Shelf() == Shelf(None, []))


class TestDeeds(Asking):
    def does(self, line, shelf, answer, at=SHELF):
        """The line must lead to this shelf, with this answer, and leave the one it begins with."""
        book, webs, names = at.book, at.webs, at.names
        later, told = changed(at, line)
        self.exactly(told, answer)
        self.assertTrue(later == shelf, line)
        self.exactly(later.names, tuple(name for name, _ in later.webs))
        self.assertTrue(isinstance(later, Shelf) and at.book is book and at.webs is webs and at.names is names)

    def with_web(self, name, web):
        """The shelf with a web more."""
        return Shelf(BOOK, SHELF.webs + ((name, web),))

    def with_way(self, web):
        """The shelf with another web in the place of way."""
        return Shelf(BOOK, [(name, web if name == "way" else its) for name, its in SHELF.webs])

    def test_books(self):
        self.does("book 3 4 : 0 1 2 / 1 1 5", Shelf(Book([3, 4], [(0, 1, 2), (1, 1, 5)]), SHELF.webs), "2")
        self.does("book 3 : -", Shelf(Book([3])), "0", Shelf())
        self.does("size 0 12", Shelf(Book([12], [(0, 0, 7)]), SHELF.webs), "11")
        self.does("size 0 11", SHELF, "11")
        self.does("thin 0 24", Shelf(Book([11], [(0, 0, 24)]), SHELF.webs), "7")

    def test_new_webs(self):
        self.does("web new 0 2 : 0 1 3", self.with_web("new", Web([0, 2], [(0, 1, 3)])), "2")
        self.does("tied new 4", self.with_web("new", Web.all_tied(4)), "6")
        self.does("tied new 1", self.with_web("new", Web.all_tied(1)), "0")
        self.does("ring new 5", self.with_web("new", Web.ring(5)), "5")
        self.does("way new 0", self.with_web("new", Web.way(0)), "0")
        self.does("way a 5", Shelf(None, [("a", Web.way(5))]), "5", Shelf())
        self.does("beside new three way", self.with_web("new", THREE.beside(WAY)), "6")
        self.does("beside new lone lone", self.with_web("new", Web([0, 0])), "2")
        self.does("glue new three way 2 0", self.with_web("new", Web([0] * 5, THREE.ties + ((2, 3, 0), (3, 4, 0)))), "5")
        self.does("part new way 2 1", self.with_web("new", Web.way(1)), "1")
        self.does("part new way 2 0", self.with_web("new", Web([0, 0])), "0")

    def test_webs_that_keep_their_place(self):
        self.does("tie way 2 0 1", self.with_way(Web([0] * 3, WAY.ties + ((0, 2, 1),))), "3")
        self.does("strike way 1 0", self.with_way(Web([0] * 3)), "0")
        self.does("strike way 0", self.with_way(Web([0] * 3, [(1, 2, 0)])), "1")
        self.does("drop way", Shelf(BOOK, [pair for pair in SHELF.webs if pair[0] != "way"]), "3")
        self.does("drop a", Shelf(), "0", Shelf(None, [("a", WAY)]))

    def test_errors_of_what_is_asked(self):
        for line, error in (
            ("size 1 0", NoKind(1)), ("size 0 0", BadNumber("size")), ("size 0 13", BadNumber("size")), ("thin 1 0", NoSort(1)),
            ("thin 0 25", BadNumber("thinness")), ("tied new 0", BadNumber("points")), ("tied new 7", BadNumber("points")),
            ("ring new 2", BadNumber("points")), ("way new 6", BadNumber("ties")), ("tie way 3 3 9", NoPoint(3)),
            ("tie way 0 4 9", NoPoint(4)), ("tie way 1 1 9", Twice(1)), ("tie way 0 1 4", BadNumber("sort")),
            ("tie way 1 0 0", Twice((1, 0, 0))), ("strike way 0 2 0", NoTie(2)), ("strike way 1 0 1", Twice(1)),
            ("glue new three way 3 3", NoPoint(3)), ("glue new three way 0 3", NoPoint(3)), ("glue new lone far 0 0", Misfit("kinds")),
            ("part new way 0 3 0", NoPoint(3)), ("part new way 0 1 0", Twice(0)),
        ):
            with self.subTest(line=line):
                self.refused(error, changed, SHELF, line)
        full = Shelf(None, [("six", Web.all_tied(6)), ("a", Web([0]))])
        self.refused(TooMany("points", 6), changed, full, "beside new six a")
        self.refused(TooMany("ties", 15), changed, full, "tie six 0 1 1")
        self.exactly(changed(full, "glue new six a 1 0")[1], "6")
        self.refused(TooMany("points", 6), changed, full, "glue new six six 0 0")


class TestNeeds(Asking):
    def test_the_shelf_comes_first(self):
        for call in (changed, answer_of):
            for value in STRANGE + (BOOK, Desk(), (BOOK, ())):
                self.refused(BadDesk("shelf"), call, value, value)
        self.exactly(answer_of(line="names", shelf=SHELF), "three way lone far")
        self.exactly(changed(line="drop way", shelf=SHELF)[1], "3")

    def test_deeds_are_no_asks(self):
        for word in DEED_WORDS:
            for more in ("", " ", " 1 2 3", " three way 0 : -"):
                self.refused(BadText(0, 0), answer_of, Shelf(), word + more)
        for word in ASK_WORDS:
            for more in ("", " ", " 1 2 3", " three 0"):
                self.refused(BadText(0, 0), changed, Shelf(), word + more)
        for value in STRANGE + ("undo", "x y"):
            self.refused(BadText(0, 0), changed, SHELF, value)
            self.refused(BadText(0, 0), answer_of, SHELF, value)

    def test_bad_texts_ahead_of_all_else(self):
        self.refused(BadText(0, 2), changed, Shelf(), "size 0")
        self.refused(BadText(0, 3), changed, Shelf(), "strike a 0 x")
        self.refused(BadText(0, 2), changed, SHELF, "web way")
        self.refused(BadText(0, 2), answer_of, Shelf(), "weight a 0")
        self.refused(BadText(0, 3), answer_of, Shelf(), "asked tied x")

    def test_nothing_then_no_name_then_twice(self):
        chance = fixed_chance()
        for word in DEED_WORDS + ASK_WORDS:
            call = changed if word in DEED_WORDS else answer_of
            line, forms = made_line(chance, word), forms_of(word)
            names = [item for item, form in zip(line.split(" ")[1:], forms) if form in ("NAME", "OTHER")]
            if word in WANT_BOOK:
                self.refused(Nothing(), call, Shelf(), line)
                self.refused(Nothing(), call, Shelf(None, [(name, THREE) for name in dict.fromkeys(names)]), line)
            elif names:
                self.refused(NoName(names[0]), call, Shelf(), line)
            if names:
                self.refused(NoName(names[0]), call, Shelf(BOOK), line)

    def test_names_in_the_order_of_the_line(self):
        for word in ("laid", "alike"):
            self.refused(NoName("x"), answer_of, SHELF, word + " x y")
            self.refused(NoName("y"), answer_of, SHELF, word + " way y")
        for word, more in (("beside", ""), ("glue", " 9 9")):
            self.refused(NoName("x"), changed, SHELF, f"{word} way x y{more}")
            self.refused(NoName("y"), changed, SHELF, f"{word} way three y{more}")
            self.refused(Twice("way"), changed, SHELF, f"{word} way three lone{more}")
        self.refused(NoName("x"), changed, SHELF, "part way x 9")
        self.refused(NoName("new"), changed, SHELF, "beside new new new")
        for line in ("web way 0 : -", "tied way 9", "ring way 9", "way way 9", "beside way three lone", "glue way three lone 9 9",
                     "part way three 9"):
            self.refused(Twice("way"), changed, SHELF, line)


class TestAsks(Asking):
    def test_known(self):
        for line, answer in (
            ("names", "three way lone far"), ("show way", "0 0 0 : 0 1 0 / 1 2 0"), ("told", "11 : 0 0 7"), ("laid way three", "6"),
            ("laid three way", "0"), ("alike three way", "unlike"), ("alike way way", "alike"), ("weight three", "12"),
            ("comes three", "comes"), ("heavy three", "-"), ("struck three", "-"), ("dial three 0", "dial 11 1"),
            ("dial lone 0", "any"), ("round three 1", "everywhere"), ("round three 2 0", "seldom"), ("hull three 2 0", "1"),
            ("hull three 0", "-"), ("friends 0 0", "power 4"), ("friends 0 0 0", "most 7"), ("mutual", "most 4"),
            ("farthest", "steps 3"), ("asked some x some y tied x y", "yes"), ("asked all x all y tied x y", "no"),
        ):
            self.exactly(answer_of(SHELF, line), answer)
        self.exactly(answer_of(Shelf(), "names"), "-")
        even = Shelf(Book([1], [(0, 0, 1)]), [("a", Web.all_tied(4)), ("b", Web.way(1)), ("five", Web.all_tied(5))])
        for line, answer in (
            ("comes a", "rare"), ("heavy a", "0 1 2 3"), ("struck a", "0 1 3"), ("bounds b 2", "1 2 / 1 2"),
            ("bounds b 3", "3 5 / 1 1"), ("weight five", "-5"), ("heavy five", "0 1 2 3 / 0 1 2 4 / 0 1 3 4 / 0 2 3 4 / 1 2 3 4"),
            ("friends 0 0", "level"), ("farthest", "apart"), ("mutual", "mostbreak 2"),
        ):
            self.exactly(answer_of(even, line), answer)
        thin = Shelf(Book([2], [(0, 0, 3)]), [("b", Web.way(2))])
        self.exactly([answer_of(thin, "tree"), answer_of(thin, "comes b"), answer_of(thin, "dial b 0")],
                     ["treesbreak 3", "onbreak", "dial 3 1"])
        bar = Shelf(Book([1], [(0, 0, 1), (0, 0, 2)]), [("b", Web([0, 0], [(0, 1, 1)]))])
        self.exactly([answer_of(bar, "dial b 0"), answer_of(bar, "round b 0"), answer_of(bar, "friends 0 0 1")],
                     ["barred", "seldom", "mostbreak 0"])
        self.exactly(answer_of(Shelf(Book([1], [(0, 0, 2)])), "friends 0 0"), "mostbreak 0")
        self.exactly(answer_of(Shelf(Book([2], [(0, 0, 2)]), [("b", Web.way(1))]), "round b 1"), "namesbreak")
        self.exactly(answer_of(Shelf(Book([5], [(0, 0, 7)])), "tree"), "trees 3")

    def test_as_the_functions_tell(self):
        chance = fixed_chance()
        for _ in range(60):
            book = made_book(chance)
            one, other = made_web(chance, book, most_points=4), made_web(chance, book, most_points=4)
            shelf = Shelf(book, [("one", one), ("other", other)])
            names = sorted(chance.sample(range(one.points), chance.randint(1, one.points)), reverse=True)
            sort, row = chance.randrange(len(book.sorts)), " ".join(str(name) for name in names)
            paper, m = dial(book, one, sort), chance.choice((2, 3, 10 ** 6))
            bounds = at_least(book, one, m) + at_most(book, one, m)
            kind = book.sorts[sort][0]
            most = friends(book, kind, [sort, sort])
            for line, answer in (
                ("show one", str(one)), ("told", str(book)), ("laid one other", str(many_layings(one, other))),
                ("alike one other", alike(one, other).word), ("weight one", str(weight(book, one))),
                ("comes one", comes(book, one).word), ("struck one", " ".join(str(at) for at in fewest_struck(book, one)) or "-"),
                ("heavy one", " / ".join(" ".join(str(at) for at in part) for part in heavy_parts(book, one)) or "-"),
                (f"dial one {sort}", " ".join([paper.word] + [str(at) for at in getattr(paper, "ratio", ())])),
                (f"bounds one {m}", "{} {} / {} {}".format(*bounds)), (f"round one {row}", everywhere(book, one, names).word),
                (f"hull one {row}", " ".join(str(at) for at in hull(book, one, names).part) or "-"),
                (f"friends {kind} {sort} {sort}", " ".join([most.word] + [str(at) for at in most.parts[:1]])),
            ):
                self.exactly(answer_of(shelf, line), answer)

    def test_of_plain_books(self):
        closed = Question.read("some x some y some z and tied x y and tied y z tied x z")
        for size, thin in ((11, 7), (7, 7), (1, 3), (5, 7), (2, 3), (12, 1), (3, 2), (4, 9)):
            book = Book([size], [(0, 0, thin)])
            for line, call in (("mutual", mutual), ("farthest", farthest), ("tree", greatest_tree)):
                if line == "tree" and thin <= size:
                    self.refused(Misfit("thin"), answer_of, Shelf(book), line)
                else:
                    paper = call(book)
                    self.exactly(answer_of(Shelf(book), line), " ".join([paper.word] + [str(at) for at in paper.parts[:1]]))
            if (size, thin) not in ((7, 7), (2, 3)):
                self.exactly(answer_of(Shelf(book), f"asked {closed}"), "yes" if verdict(book, closed) else "no")

    def test_errors_of_what_is_asked(self):
        for line, error in (
            ("weight far", Misfit("book")), ("comes far", Misfit("book")), ("heavy far", Misfit("book")), ("struck far", Misfit("book")),
            ("dial far 1", NoSort(1)), ("dial far 0", Misfit("book")), ("bounds far 1", BadNumber("m")), ("bounds far 2", Misfit("book")),
            ("bounds three 1000001", BadNumber("m")), ("round far 1", NoPoint(1)), ("round far 0", Misfit("book")),
            ("round three 0 3 0", NoPoint(3)), ("round three 0 1 0", Twice(0)), ("hull three 4", NoPoint(4)), ("hull three 1 1", Twice(1)),
            ("friends 1 9", NoKind(1)), ("friends 0 0 1", NoSort(1)), ("friends 0 0 0 0 0 0 0", TooMany("sorts", 5)),
            ("tree", Misfit("thin")), ("asked tied x y", Misfit("free")), ("asked some x some x some x some x tied x x", TooMany("looks", 3)),
        ):
            with self.subTest(line=line):
                self.refused(error, answer_of, SHELF, line)
        wide = Shelf(Book([1, 1], [(0, 1, 1)]), [("six", Web.all_tied(6))])
        for line in ("mutual", "farthest", "tree", "asked tied x y"):
            self.refused(Misfit("plain"), answer_of, wide, line)
        self.refused(Misfit("sorts"), answer_of, Shelf(Book([1, 1], [(0, 0, 1)])), "friends 1 0")
        six = Shelf(BOOK, [("six", Web.all_tied(6))])
        self.refused(TooMany("points", 5), answer_of, six, "bounds six 2")
        self.refused(TooMany("ties", 10), answer_of, six, "struck six")
        self.refused(Impossible(DialBreak((1, 1))), answer_of, Shelf(Book([3], [(0, 0, 3)])), "asked all x same x x")
        self.exactly(answer_of(Shelf(Book([3], [(0, 0, 4)])), "tree"), "treesbreak 4")
        self.assertFalse(TreesBreak(4))
        self.refused(BadLot("points"), THREE.part, [])

    def test_asks_change_nothing(self):
        chance = fixed_chance()
        for word in ASK_WORDS:
            before = (SHELF.book, SHELF.webs, SHELF.names)
            try:
                answer_of(SHELF, made_line(chance, word))
            except ValueError:
                pass
            self.assertTrue((SHELF.book, SHELF.webs, SHELF.names) == before)


if __name__ == "__main__":
    unittest.main()
