"""Webs: their bounds, methods, texts and errors, and which books they fit."""

import itertools
import re
import unittest

from tests.asking import STRANGE, Asking
from tests.bending import bent, fixed_chance, wrong_item
from thincoins.books import Book
from thincoins.errors import (
    BadBook, BadLot, BadNumber, BadText, BadWeb, Misfit, NoPoint, NoTie, TooMany, Twice,
)
from thincoins.webs import Web, fits

NO_NUMBERS = STRANGE + ([0], (0,))
NO_LISTS = STRANGE + (0, 1)
PAIRS = [(one, two) for two in range(6) for one in range(two)]


class TestMaking(Asking):
    def test_attributes(self):
        web = Web([2, 0, 1], [(2, 0, 3), [1, 0, 0], (0, 2, 1), (2, 1, 0)])
        self.exactly(web.kinds, (2, 0, 1))
        self.exactly(web.points, 3)
        self.exactly(web.ties, ((0, 1, 0), (0, 2, 1), (0, 2, 3), (1, 2, 0)))
        self.exactly((Web((0,)).ties, Web(ties=((1, 0, 2),), kinds=(0, 0)).ties), ((), ((0, 1, 2),)))

    def test_bounds_at_their_ends(self):
        full = Web([0, 1, 2, 0, 1, 2], [(one, two, 3) for one, two in PAIRS])
        self.exactly((full.points, len(full.ties)), (6, 15))
        for kinds in ([], (), [3], [-1], [0, 3], [True], [0, None], [0.0], ["0"], [[0]], [10 ** 70]):
            self.refused(BadWeb("kinds"), Web, kinds)
            self.refused(BadWeb("kinds"), Web, kinds, 5)
        for value in STRANGE:
            self.refused(BadWeb("kinds"), Web, value)

    def test_bad_ties(self):
        for tie in ((0, 1), (0, 1, 0, 0), (), (0, 0, 0), (1, 1, 0), (0, 2, 0), (2, 0, 0), (-1, 0, 0), (0, -1, 0), (0, 1, 4), (0, 1, -1)):
            self.refused(BadWeb("ties"), Web, [0, 0], [tie])
            self.refused(BadWeb("ties"), Web, [0, 0], [(0, 1, 0), list(tie)])
        for tie in ((0, True, 0), (False, 1, 0), (0, 1, True), (0, 1.0, 0), (0, "1", 0), "010", {0: 0, 1: 1, 2: 2}, 7, None):
            self.refused(BadWeb("ties"), Web, [0, 0], [tie])
        for value in STRANGE:
            self.refused(BadWeb("ties"), Web, [0, 0], value)

    def test_twice_keeps_what_was_passed(self):
        self.refused(Twice((0, 1, 2)), Web, [0, 0], [(0, 1, 2), (0, 1, 2)])
        self.refused(Twice([1, 0, 2]), Web, [0, 0], [(0, 1, 2), [1, 0, 2], (0, 1, 2)])
        self.refused(Twice((0, 1, 0)), Web, [0] * 3, ([1, 2, 0], (1, 0, 0), (0, 1, 0), (2, 1, 0)))
        self.assertEqual(len(Web([0, 0], [(0, 1, 0), (0, 1, 1), (1, 0, 2), (1, 0, 3)]).ties), 4)

    def test_the_order_of_errors(self):
        many = [(one, two, sort) for one, two in PAIRS for sort in (0, 1)]
        self.refused(TooMany("points", 6), Web, [0] * 7)
        self.refused(TooMany("points", 6), Web, [0] * 7, many + [(0, 6, 0)])
        self.refused(TooMany("ties", 15), Web, [0] * 6, many[:16])
        self.refused(Twice((1, 0, 0)), Web, [0] * 7, many + [(1, 0, 0)])
        self.refused(BadWeb("ties"), Web, [0] * 7, many + [(1, 0, 0), (0, 7, 0)])
        self.refused(BadWeb("kinds"), Web, [0] * 7 + [3], many)
        self.exactly(len(Web([0] * 6, many[:15]).ties), 15)

    def test_what_is_passed_may_be_changed(self):
        kinds, tie = [0, 1], [1, 0, 2]
        ties = [tie]
        web = Web(kinds, ties)
        kinds.append(2)
        tie[2] = 0
        ties.append((0, 1, 3))
        self.exactly((web.kinds, web.points, web.ties, str(web)), ((0, 1), 2, ((0, 1, 2),), "0 1 : 0 1 2"))

    def test_equality(self):
        web = Web([0, 0, 1], [(0, 1, 0), (1, 2, 1)])
        self.assertTrue(web == Web((0, 0, 1), [[2, 1, 1], [1, 0, 0]]))
        self.assertFalse(web != Web((0, 0, 1), [[2, 1, 1], [1, 0, 0]]))
        others = (Web([0, 1, 0], web.ties), Web([0, 0, 1]), Web([0, 0, 1], [(0, 1, 0), (1, 2, 0)]), Web([0, 0]))
        for other in others + (str(web), ((0, 0, 1), web.ties), None, 3, Book([1])):
            self.assertFalse(web == other)
            self.assertFalse(other == web)
            self.assertTrue(web != other)


class TestMethods(Asking):
    def setUp(self):
        self.web = Web([0, 1, 0, 2], [(0, 1, 0), (0, 2, 1), (2, 0, 3), (1, 2, 2), (2, 3, 0)])

    def test_part(self):
        self.exactly(str(self.web.part([2, 0])), "0 0 : 0 1 1 / 0 1 3")
        self.exactly(str(self.web.part((3, 2, 1))), "2 0 1 : 0 1 0 / 1 2 2")
        self.exactly(str(self.web.part(points=[3])), "2 : -")
        self.exactly(str(self.web.part([3, 0])), "2 0 : -")
        self.assertEqual(self.web.part([0, 1, 2, 3]), self.web)

    def test_in_order(self):
        self.assertEqual(self.web.in_order((0, 1, 2, 3)), self.web)
        self.exactly(str(self.web.in_order(points=[3, 2, 1, 0])), "2 0 1 0 : 0 1 0 / 1 2 2 / 1 3 1 / 1 3 3 / 2 3 0")
        for points in ([0, 1, 2], (3,), [2, 3, 1]):
            self.refused(Misfit("points"), self.web.in_order, points)

    def test_tie_numbers(self):
        self.exactly(self.web.tie_numbers([2, 0]), (1, 2))
        self.exactly(self.web.tie_numbers((3, 1, 2)), (3, 4))
        self.exactly(self.web.tie_numbers(points=[]), ())
        self.exactly(self.web.tie_numbers(()), ())
        self.exactly(self.web.tie_numbers([3]), ())
        self.exactly(self.web.tie_numbers([3, 2, 1, 0]), (0, 1, 2, 3, 4))

    def test_points_refused(self):
        for call in (self.web.part, self.web.in_order, self.web.tie_numbers):
            for value in NO_LISTS:
                self.refused(BadLot("points"), call, value)
            for value in NO_NUMBERS + (4, -1, 10 ** 70):
                self.refused(NoPoint(value), call, [value])
                self.refused(NoPoint(value), call, (1, 1, value))
                self.refused(NoPoint(value), call, [0, value, 9])
            self.refused(Twice(1), call, [0, 1, 2, 1, 0])
            self.refused(Twice(0), call, (0, 0))
        self.refused(BadLot("points"), self.web.part, [])
        self.refused(BadLot("points"), self.web.in_order, ())

    def test_without_ties(self):
        self.exactly(str(self.web.without_ties([4, 0])), "0 1 0 2 : 0 2 1 / 0 2 3 / 1 2 2")
        self.exactly(str(self.web.without_ties(numbers=(0, 1, 2, 3, 4))), "0 1 0 2 : -")
        self.assertEqual(self.web.without_ties([]), self.web)

    def test_without_ties_refuses(self):
        for value in NO_LISTS:
            self.refused(BadLot("numbers"), self.web.without_ties, value)
        for value in NO_NUMBERS + (5, -1):
            self.refused(NoTie(value), self.web.without_ties, [value])
            self.refused(NoTie(value), self.web.without_ties, [1, 1, value])
        self.refused(Twice(3), self.web.without_ties, [3, 4, 3, 4])
        self.refused(NoTie(0), Web([0]).without_ties, [0])

    def test_with_tie(self):
        self.exactly(str(self.web.with_tie(3, 0, 1)), "0 1 0 2 : 0 1 0 / 0 2 1 / 0 2 3 / 0 3 1 / 1 2 2 / 2 3 0")
        self.exactly(str(Web([0, 0]).with_tie(sort=3, other=0, point=1)), "0 0 : 0 1 3")
        self.assertEqual(len(self.web.ties), 5)

    def test_with_tie_refuses(self):
        for value in NO_NUMBERS + (4, -1):
            self.refused(NoPoint(value), self.web.with_tie, value, 9, 9)
            self.refused(NoPoint(value), self.web.with_tie, 0, value, 9)
        self.refused(Twice(2), self.web.with_tie, 2, 2, 9)
        for value in NO_NUMBERS + (4, -1):
            self.refused(BadNumber("sort"), self.web.with_tie, 0, 1, value)
        self.refused(Twice((2, 0, 3)), self.web.with_tie, 2, 0, 3)
        self.refused(Twice((0, 2, 3)), self.web.with_tie, 0, 2, 3)
        self.refused(TooMany("ties", 15), Web.all_tied(6).with_tie, 0, 1, 1)
        self.refused(Twice((1, 0, 0)), Web.all_tied(6).with_tie, 1, 0, 0)

    def test_beside(self):
        self.exactly(str(Web.way(1).beside(Web([2, 1], [(0, 1, 3)]))), "0 0 2 1 : 0 1 0 / 2 3 3")
        self.exactly(str(Web([1]).beside(other=Web([0]))), "1 0 : -")
        self.exactly(Web.all_tied(3).beside(Web.all_tied(3)).points, 6)

    def test_beside_refuses(self):
        for value in STRANGE + ("0 : -", [0], Book([1])):
            self.refused(BadWeb("other"), self.web.beside, value)
        self.refused(TooMany("points", 6), self.web.beside, Web.all_tied(3))
        many = Web([0] * 5, [(one, two, sort) for one, two in PAIRS[:5] for sort in range(3)])
        self.exactly(len(many.beside(Web([0])).ties), 15)
        more = Web([0, 0], [(0, 1, 0)])
        self.refused(TooMany("points", 6), many.beside, more)
        four = Web([0] * 4, [(one, two, sort) for one, two in PAIRS[:5] for sort in range(3)])
        self.refused(TooMany("ties", 15), four.beside, more)


class TestShapes(Asking):
    def test_all_tied(self):
        for points in range(1, 7):
            web = Web.all_tied(points)
            ties = tuple(itertools.combinations(range(points), 2))
            self.exactly((web.kinds, web.ties), ((0,) * points, tuple(tie + (0,) for tie in ties)))
        self.exactly(str(Web.all_tied(sort=3, kind=2, points=2)), "2 2 : 0 1 3")

    def test_way(self):
        for ties in range(6):
            web = Web.way(ties, 1, 2)
            self.exactly((web.kinds, web.ties), ((1,) * (ties + 1), tuple((at, at + 1, 2) for at in range(ties))))
        self.exactly(str(Web.way(sort=3, kind=2, ties=1)), "2 2 : 0 1 3")

    def test_ring(self):
        self.exactly(str(Web.ring(3)), "0 0 0 : 0 1 0 / 0 2 0 / 1 2 0")
        self.exactly(str(Web.ring(5, 1, 2)), "1 1 1 1 1 : 0 1 2 / 0 4 2 / 1 2 2 / 2 3 2 / 3 4 2")
        self.exactly(len(Web.ring(sort=3, kind=2, points=6).ties), 6)

    def test_they_refuse(self):
        bounds = ((Web.all_tied, "points", 1, 6), (Web.way, "ties", 0, 5), (Web.ring, "points", 3, 6))
        for call, name, least, most in bounds:
            for value in NO_NUMBERS + (least - 1, most + 1, 10 ** 70):
                self.refused(BadNumber(name), call, value, 9, 9)
            for value in NO_NUMBERS + (-1, 3):
                self.refused(BadNumber("kind"), call, least, value, 9)
            for value in NO_NUMBERS + (-1, 4):
                self.refused(BadNumber("sort"), call, least, 2, value)


class TestFits(Asking):
    def test_fits(self):
        book = Book([3, 4], [(0, 0, 1), (1, 0, 2)])
        for web in (Web([0]), Web([1]), Web([0, 0], [(0, 1, 0)]), Web([0, 1], [(0, 1, 1)]), Web([1, 0], [(0, 1, 1)])):
            self.assertIs(fits(book, web), True)
        unfit = (
            Web([2]), Web([0, 2]), Web([0, 0], [(0, 1, 2)]), Web([0, 1], [(0, 1, 0)]), Web([1, 0], [(0, 1, 0)]),
            Web([1, 1], [(0, 1, 1)]), Web([0, 0], [(0, 1, 1)]), Web([1, 1], [(0, 1, 0)]), Web([0, 0], [(0, 1, 0), (0, 1, 3)]),
        )
        for web in unfit:
            self.assertIs(fits(book, web), False)
        self.assertIs(fits(web=Web([0, 0], [(0, 1, 0)]), book=Book([1])), False)

    def test_fits_refuses(self):
        for value in STRANGE + ("2 : -", Web([0])):
            self.refused(BadBook("book"), fits, value, value)
        for value in STRANGE + ("0 : -", Book([1])):
            self.refused(BadWeb("web"), fits, Book([1]), value)


WEB = re.compile("([0-2](?: [0-2]){0,5}) : (-|[0-5] [0-5] [0-3](?: / [0-5] [0-5] [0-3]){0,14})", re.ASCII)
ENDS = ["", " : -", " -"] + [f" {sort}" for sort in range(4)] + [f" {two} {sort}" for two in range(6) for sort in range(4)]
ENDS += [f" {one} {two} {sort}" for one, two in PAIRS for sort in range(4)]


def is_right(text):
    """Whether the text is one of a web, told in another way than the package does."""
    found = WEB.fullmatch(text)
    if found is None:
        return False
    points = len(found[1].split(" "))
    rows = [] if found[2] == "-" else [tuple(map(int, row.split(" "))) for row in found[2].split(" / ")]
    return all(row[0] < row[1] < points for row in rows) and all(one < two for one, two in zip(rows, rows[1:]))


def some_webs(chance):
    """Webs of all shapes, also with the last ties that can be."""
    for number in range(120):
        points = chance.randint(1, 6)
        ties = [(one, two, sort) for one, two in PAIRS if two < points for sort in range(4)]
        ties = ties[-chance.choice((2, 5, len(ties) + 1)):]
        many = min(len(ties), 15, chance.choice((0, 1, 2, 3, 15) if number % 10 == 0 else (0, 1, 2, 3)))
        yield Web([chance.randrange(3) for _ in range(points)], chance.sample(ties, many))


class TestReading(Asking):
    def test_read_and_written_back(self):
        for text in ("0 : -", "2 1 0 : 0 2 3", "0 0 0 0 0 0 : 4 5 3", str(Web.all_tied(6, 2, 3))):
            self.exactly(str(Web.read(text)), text)
        self.assertEqual(Web.read(text="0 1 0 : 0 1 1 / 1 2 1"), Web([0, 1, 0], [(2, 1, 1), (0, 1, 1)]))

    def test_no_string(self):
        for value in STRANGE + (["0", ":", "-"], b"0 : -", Web([0])):
            if not isinstance(value, str):
                self.refused(BadText(0, 0), Web.read, value)

    def test_known_faults(self):
        last = str(Web.all_tied(6, 0, 3))
        for text, item in (
            ("", 0), (" ", 0), ("3", 0), ("-1", 0), (":", 0), ("0", 1), ("0 3", 1), ("0 :", 2), ("0 : 0", 2),
            ("0 0 0 0 0 0", 6), ("0 0 0 0 0 0 0", 6), ("0 0 :", 3), ("0 0 : 1", 3), ("0 0 : 0 0", 4), ("0 0 : 0 2", 4),
            ("0 0 : 0 1", 5), ("0 0 : 0 1 4", 5), ("0 0 : 0 1 3 /", 6), ("0 0 : 0 1 2 /", 7), ("0 0 : 0 1 2 / 0 1 2", 9),
            ("0 0 : 0 1 2 / 0 1 3 /", 10), ("0 0 : 0 1 2 0", 6), ("0 0 : - /", 4), ("0 0 : -1", 3), ("0 0 0 : 1 0 0", 5),
            ("0 0 0 : 0 2 3 / 0", 8), ("0 0 0 : 0 2 3 / 1", 9), ("0 0 0 : 0 1 3 / 0 1", 9), ("0 0 0 : 0 1 3 / 0 2 0", None),
            ("0 0 0 : 1 2 0 / 0", 8), ("0 0 0 : 2", 4), ("0 0 0 : 0 2 1 / 0 1", 9), ("0 0 0 : 1 2 3 /", 7),
            (last + " /", 6 + 1 + 59), (str(Web([0] * 6, [(a, b, s) for a, b in PAIRS[:5] for s in range(3)])) + " /", 66),
            ("00 : -", 0), ("+0 : -", 0), ("0  : -", 1), ("0 : - ", 3), ("0 0 : 0 1 -0", 5), ("0 0 : 0 1 " + "1" * 61, 5),
            ("0 0 : 0 01 0", 4), ("0 :\n-", 1), ("0 : -\n", 2), ("\u0660 : -", 0),
        ):
            with self.subTest(text=text):
                if item is None:
                    self.exactly(str(Web.read(text)), text)
                else:
                    self.refused(BadText(0, item), Web.read, text)

    def test_bent_texts(self):
        chance = fixed_chance()
        for web in some_webs(chance):
            self.assertEqual(Web.read(str(web)), web)
            for text in bent(str(web), chance):
                item = wrong_item(text, is_right, ENDS)
                with self.subTest(text=text):
                    if item is None:
                        self.exactly(str(Web.read(text)), text)
                    else:
                        self.refused(BadText(0, item), Web.read, text)


if __name__ == "__main__":
    unittest.main()
