"""Books: their bounds, methods, texts and errors."""

import re
import unittest

from tests.asking import STRANGE, Asking
from tests.bending import bent, fixed_chance, wrong_item
from thincoins.books import Book
from thincoins.errors import BadBook, BadNumber, BadText, NoKind, NoSort, TooMany
from thincoins.webs import Web

NO_NUMBERS = STRANGE + ([1], (1,))


class TestMaking(Asking):
    def test_attributes(self):
        book = Book([11, 5], [(1, 0, 3), [0, 0, 7], (0, 1, 24), (1, 1, 1)])
        self.exactly(book.sizes, (11, 5))
        self.exactly(book.sorts, ((0, 1, 3), (0, 0, 7), (0, 1, 24), (1, 1, 1)))
        self.exactly((Book((3,)).sizes, Book((3,)).sorts), ((3,), ()))
        self.exactly(Book(sorts=[(0, 0, 1)], sizes=(2,)).sorts, ((0, 0, 1),))

    def test_is_plain(self):
        self.assertIs(Book([1], [(0, 0, 1)]).is_plain, True)
        for book in (Book([1]), Book([1], [(0, 0, 1), (0, 0, 1)]), Book([1, 1], [(0, 0, 1)]), Book([1, 2], [(0, 1, 1)])):
            self.assertIs(book.is_plain, False)

    def test_bounds_at_their_ends(self):
        self.exactly(Book([1, 12, 6]).sizes, (1, 12, 6))
        self.exactly(Book([1], [(0, 0, 1), (0, 0, 24)]).sorts, ((0, 0, 1), (0, 0, 24)))
        for sizes in ([], (), [0], [13], [1, 13], [-1], [True], [1, None], [1.0], ["1"], [[1]], [10 ** 70]):
            self.refused(BadBook("sizes"), Book, sizes)
            self.refused(BadBook("sizes"), Book, sizes, 5)
        for value in STRANGE:
            self.refused(BadBook("sizes"), Book, value)

    def test_bad_sorts(self):
        for sort in ((0, 0), (0, 0, 1, 1), (), (0, 0, 0), (0, 0, 25), (0, 2, 1), (2, 0, 1), (-1, 0, 1), (0, -1, 1)):
            self.refused(BadBook("sorts"), Book, [1, 1], [sort])
            self.refused(BadBook("sorts"), Book, [1, 1], [(0, 0, 1), list(sort)])
        for sort in ((True, 0, 1), (0, False, 1), (0, 0, True), (0, 0, 1.0), ("0", 0, 1), "001", {0: 0, 1: 1, 2: 2}, 7, None):
            self.refused(BadBook("sorts"), Book, [1, 1], [sort])
        for value in STRANGE:
            self.refused(BadBook("sorts"), Book, [1], value)

    def test_too_many_come_last(self):
        self.refused(TooMany("kinds", 3), Book, [1] * 4)
        self.refused(TooMany("kinds", 3), Book, [1] * 4, [(3, 0, 1)] * 5)
        self.refused(TooMany("sorts", 4), Book, [1], [(0, 0, 1)] * 5)
        self.refused(BadBook("sorts"), Book, [1] * 4, [(4, 0, 1)])
        self.refused(BadBook("sorts"), Book, [1], [(0, 0, 1)] * 5 + [(0, 0, 25)])
        self.refused(BadBook("sizes"), Book, [1] * 4 + [0])
        self.assertEqual(len(Book([1] * 3, [(2, 0, 1)] * 4).sorts), 4)

    def test_what_is_passed_may_be_changed(self):
        sizes, sort = [2], [0, 0, 1]
        sorts = [sort]
        book = Book(sizes, sorts)
        sizes.append(3)
        sort[2] = 9
        sorts.append([0, 0, 2])
        self.exactly((book.sizes, book.sorts, str(book)), ((2,), ((0, 0, 1),), "2 : 0 0 1"))

    def test_equality(self):
        book = Book([2, 3], [(0, 1, 4)])
        self.assertTrue(book == Book((2, 3), ([1, 0, 4],)))
        self.assertFalse(book != Book((2, 3), ([1, 0, 4],)))
        others = (Book([3, 2], [(0, 1, 4)]), Book([2, 3]), Book([2, 3], [(0, 1, 5)]), Book([2, 3], [(0, 0, 4)]))
        for other in others + ("2 3 : 0 1 4", ((2, 3), ((0, 1, 4),)), None, 0, Web([0])):
            self.assertFalse(book == other)
            self.assertFalse(other == book)
            self.assertTrue(book != other)
        self.assertFalse(Book([1], [(0, 0, 1), (0, 0, 2)]) == Book([1], [(0, 0, 2), (0, 0, 1)]))


class TestMethods(Asking):
    def setUp(self):
        self.book = Book([11, 5], [(0, 0, 7), (1, 0, 3)])

    def test_with_size(self):
        self.assertEqual(self.book.with_size(0, 1), Book([1, 5], [(0, 0, 7), (0, 1, 3)]))
        self.assertEqual(self.book.with_size(size=12, kind=1), Book([11, 12], [(0, 0, 7), (0, 1, 3)]))
        self.assertEqual(str(self.book), "11 5 : 0 0 7 / 0 1 3")

    def test_with_size_refuses(self):
        for value in NO_NUMBERS + (-1, 2):
            self.refused(NoKind(value), self.book.with_size, value, 0)
        for value in NO_NUMBERS + (0, 13, -1):
            self.refused(BadNumber("size"), self.book.with_size, 1, value)

    def test_with_thinness(self):
        self.assertEqual(self.book.with_thinness(0, 24), Book([11, 5], [(0, 0, 24), (0, 1, 3)]))
        self.assertEqual(self.book.with_thinness(thinness=1, sort=1), Book([11, 5], [(0, 0, 7), (0, 1, 1)]))

    def test_with_thinness_refuses(self):
        for value in NO_NUMBERS + (-1, 2):
            self.refused(NoSort(value), self.book.with_thinness, value, 0)
        for value in NO_NUMBERS + (0, 25, -1):
            self.refused(BadNumber("thinness"), self.book.with_thinness, 1, value)
        self.refused(NoSort(0), Book([1]).with_thinness, 0, 1)

    def test_with_sort(self):
        self.assertEqual(str(self.book.with_sort(1, 0, 9)), "11 5 : 0 0 7 / 0 1 3 / 0 1 9")
        self.assertEqual(str(self.book.with_sort(thinness=24, its=1, kind=1)), "11 5 : 0 0 7 / 0 1 3 / 1 1 24")

    def test_with_sort_refuses(self):
        for value in NO_NUMBERS + (-1, 2):
            self.refused(NoKind(value), self.book.with_sort, value, 7, 0)
            self.refused(NoKind(value), self.book.with_sort, 0, value, 0)
        full = self.book.with_sort(0, 0, 1).with_sort(0, 0, 1)
        for value in NO_NUMBERS + (0, 25):
            self.refused(BadNumber("thinness"), full.with_sort, 0, 0, value)
        self.refused(TooMany("sorts", 4), full.with_sort, 0, 0, 1)

    def test_things_at(self):
        self.exactly(self.book.things_at(1, 10), 100000)
        self.exactly(self.book.things_at(0, 2), 2048)
        self.exactly(Book([12]).things_at(m=10 ** 6, kind=0), 10 ** 72)
        self.exactly(Book([1]).things_at(0, 7), 7)

    def test_things_at_refuses(self):
        for value in NO_NUMBERS + (-1, 2):
            self.refused(NoKind(value), self.book.things_at, value, 0)
        for value in NO_NUMBERS + (1, 0, -2, 10 ** 6 + 1):
            self.refused(BadNumber("m"), self.book.things_at, 0, value)


SIZE = "(?:[1-9]|1[0-2])"
SORT = "[0-2] [0-2] (?:[1-9]|1[0-9]|2[0-4])"
BOOK = re.compile(f"({SIZE}(?: {SIZE}){{0,2}}) : (-|{SORT}(?: / {SORT}){{0,3}})", re.ASCII)
ENDS = ["", " : -", " -", " 1"] + [f" {one} 1" for one in range(3)] + [
    f" {one} {two} 1" for one in range(3) for two in range(3)
]


def is_right(text):
    """Whether the text is one of a book, told in another way than the package does."""
    found = BOOK.fullmatch(text)
    if found is None:
        return False
    kinds = len(found[1].split(" "))
    rows = [] if found[2] == "-" else [row.split(" ") for row in found[2].split(" / ")]
    return all(int(row[0]) <= int(row[1]) < kinds for row in rows)


def some_books(chance):
    """Books of all shapes."""
    for _ in range(200):
        kinds = chance.randint(1, 3)
        sorts = [
            (chance.randrange(kinds), chance.randrange(kinds), chance.choice((1, 2, 9, 10, 24)))
            for _ in range(chance.randint(0, 4))
        ]
        yield Book([chance.choice((1, 2, 9, 10, 12)) for _ in range(kinds)], sorts)


class TestReading(Asking):
    def test_read_and_written_back(self):
        texts = ["1 : -", "12 12 12 : 0 0 1", "11 5 : 0 0 7 / 0 1 3", "1 2 3 : 2 2 24 / 0 2 10 / 1 2 9 / 0 0 8"]
        for text in texts:
            self.assertEqual(str(Book.read(text)), text)
        self.assertEqual(Book.read(text="11 5 : 0 0 7 / 0 1 3"), Book([11, 5], [(0, 0, 7), (1, 0, 3)]))
        self.assertEqual(Book([3]).read("2 : -"), Book([2]))

    def test_no_string(self):
        for value in STRANGE + (["2", ":", "-"], b"2 : -", Book([2])):
            if not isinstance(value, str):
                self.refused(BadText(0, 0), Book.read, value)

    def test_known_faults(self):
        for text, item in (
            ("", 0), (" ", 0), ("0", 0), ("13", 0), ("-", 0), (":", 0), ("2", 1), ("2 2 2", 3), ("2 2 2 2", 3),
            ("2 :", 2), ("2 : ", 2), ("2 : 1", 2), ("2 : 0", 3), ("2 : 0 0", 4), ("2 : 0 0 25", 4), ("2 : 0 0 0", 4),
            ("2 : 0 0 1 /", 6), ("2 : 0 0 1 / -", 6), ("2 : 0 0 1 0", 5), ("2 : - /", 3), ("2 : - -", 3),
            ("2 : 0 0 1 / 0 0 1 / 0 0 1 / 0 0 1 /", 17), ("2 2 : 1 0 3", 4), ("2 2 : 1 1 3 / 1 0 3", 8),
            ("02 : -", 0), ("+2 : -", 0), ("2 : 0 -0 1", 3), ("2  : -", 1), (" 2 : -", 0), ("2 : - ", 3),
            ("2 : 0 0 " + "1" * 61, 4), ("1" * 61 + " : -", 0), ("2 : 0 0 1\n", 4), ("2 :\t-", 1), ("\u0662 : -", 0),
        ):
            with self.subTest(text=text):
                self.refused(BadText(0, item), Book.read, text)

    def test_bent_texts(self):
        chance = fixed_chance()
        for book in some_books(chance):
            self.assertEqual(Book.read(str(book)), book)
            for text in bent(str(book), chance):
                item = wrong_item(text, is_right, ENDS)
                with self.subTest(text=text):
                    if item is None:
                        self.assertEqual(str(Book.read(text)), text)
                    else:
                        self.refused(BadText(0, item), Book.read, text)


if __name__ == "__main__":
    unittest.main()
