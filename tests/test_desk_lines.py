"""Lines of the desk: how they are read."""

import re
import unittest

from tests.asking import STRANGE, Asking
from tests.bending import ODD, bent, fixed_chance
from tests.lines import ASK_TABLE, DEED_TABLE, first_of, forms_of, made_line
from thincoins.books import Book
from thincoins.desk_lines import ASKS, DEEDS, read_line
from thincoins.errors import BadText
from thincoins.questions import Question
from thincoins.webs import Web

NUMBER, NAME = re.compile("0|[1-9][0-9]{0,59}", re.ASCII), re.compile("[a-z][a-z0-9]{0,11}", re.ASCII)
READERS = {"BOOK": Book, "WEB": Web, "QUESTION": Question}
FIRSTS = tuple(first_of(row) for row in DEED_TABLE + ASK_TABLE)
ODD_ITEMS = ODD + FIRSTS[:3] + ("a", "A", "a" * 13, "1a", "a_1", "5", "a-", "some", "names")


def wrong_in_line(line):
    """The item that cannot stand in the line, or None; texts within are read by their own classes."""
    items = line.split(" ")
    if items[0] not in FIRSTS:
        return 0
    at = 1
    for form in forms_of(items[0]):
        if form in READERS:
            try:
                READERS[form].read(" ".join(items[at:]))
            except BadText as error:
                return at + error.item
            return None
        wanted = NUMBER if form in ("N", "N..") else NAME
        if at == len(items) or not wanted.fullmatch(items[at]):
            return at
        at += 1
        while form == "N.." and at < len(items):
            if not wanted.fullmatch(items[at]):
                return at
            at += 1
    return at if at < len(items) else None


def plain_read(line):
    """What a right line tells."""
    items = line.split(" ")
    told, at = [items[0]], 1
    for form in forms_of(items[0]):
        if form in READERS:
            return tuple(told + [READERS[form].read(" ".join(items[at:]))])
        told += items[at:at + 1] if form not in ("N", "N..") else [int(item) for item in items[at:at + 1]]
        at += 1
        if form == "N..":
            told += [int(item) for item in items[at:]]
    return tuple(told)


def as_texts(told):
    """The values of a line that was read, and their classes."""
    return [(type(one), str(one)) for one in told]


class TestTables(Asking):
    def test_first_items_in_order(self):
        self.exactly(DEEDS, tuple(first_of(row) for row in DEED_TABLE))
        self.exactly(ASKS, tuple(first_of(row) for row in ASK_TABLE))


class TestReadLine(Asking):
    def test_lines_of_each_form(self):
        chance = fixed_chance()
        for word in FIRSTS:
            for _ in range(12):
                line = made_line(chance, word)
                told = read_line(line)
                self.assertIsInstance(told, tuple)
                self.exactly(as_texts(told), as_texts(plain_read(line)))
                self.assertTrue(told == plain_read(line))

    def test_known(self):
        self.exactly(read_line("glue b a a 0 10"), ("glue", "b", "a", "a", 0, 10))
        self.exactly(read_line(line="strike x 3"), ("strike", "x", 3))
        self.exactly(read_line("part y x 3 0 3"), ("part", "y", "x", 3, 0, 3))
        self.exactly(read_line("friends 1 0 0 0 0 0 0 0"), ("friends", 1, 0, 0, 0, 0, 0, 0, 0))
        self.exactly([read_line(word) for word in ("names", "told", "mutual", "farthest", "tree")],
                     [("names",), ("told",), ("mutual",), ("farthest",), ("tree",)])
        self.assertTrue(read_line("book 2 3 : 0 1 4")[1] == Book([2, 3], [(0, 1, 4)]))
        self.assertTrue(read_line("web tied 0 : -") == ("web", "tied", Web([0])))
        self.assertTrue(read_line("asked tied x y")[1] == Question.read("tied x y"))
        self.exactly(read_line("beside book names told"), ("beside", "book", "names", "told"))
        self.exactly(read_line("size 0 " + "9" * 60), ("size", 0, 10 ** 60 - 1))
        self.exactly(len(read_line("strike x" + " 0" * 9000)), 9002)

    def test_known_faults(self):
        for line, item in (
            ("", 0), (" ", 0), ("Names", 0), ("name", 0), (" names", 0), ("names ", 1), ("names x", 1), ("told 1", 1), ("book", 1),
            ("book ", 1), ("book 13 : -", 1), ("book 2 : 0 0 25", 5), ("book 2 : 0 1 1", 4), ("book 2 : - 1", 4), ("web", 1),
            ("web A", 1), ("web a", 2), ("web a 0 0 : 1 0 3", 5), ("web a 0 : 0 1 0", 4), ("web " + "a" * 13 + " 0 : -", 1),
            ("web 1 0 : -", 1), ("tied a", 2), ("tied a -1", 2), ("tied a 01", 2), ("tied a 1 1", 3), ("tie a 0 1", 4),
            ("tie a 0 1 2 3", 5), ("strike a", 2), ("strike a x", 2), ("strike a 0 1 x 2", 4), ("strike a 0 ", 3),
            ("beside a b", 3), ("beside a b c d", 4), ("glue a b c 0", 5), ("glue a b 0 0", 3), ("part a b", 3), ("part a b c", 3),
            ("drop", 1), ("drop a b", 2), ("friends 0", 2), ("friends a 0", 1), ("asked", 1), ("asked tied x", 3),
            ("asked some x", 3), ("asked " + "not " * 38 + "tied x x", 38), ("asked tied x x x", 4), ("hull a", 2), ("round a b", 2),
            ("dial a", 2), ("bounds a 1 2", 3), ("size 0 " + "1" * 61, 2), ("size 0 +1", 2), ("size  0 1", 1), ("tree 0", 1),
            ("web a 0 0 : 0 1 0 / 0 1 0", 11), ("show a\n", 1), ("show a ", 2), ("undo", 0), ("/", 0), ("-", 0),
        ):
            with self.subTest(line=line):
                self.refused(BadText(0, item), read_line, line)

    def test_no_string(self):
        for value in STRANGE + (["names"], ("names",), b"names"):
            if not isinstance(value, str):
                self.refused(BadText(0, 0), read_line, value)

    def test_bent_lines(self):
        chance = fixed_chance()
        for word in FIRSTS:
            for _ in range(4):
                for line in bent(made_line(chance, word), chance, ODD_ITEMS):
                    item = wrong_in_line(line)
                    with self.subTest(line=line):
                        if item is None:
                            self.assertTrue(read_line(line) == plain_read(line))
                        else:
                            self.refused(BadText(0, item), read_line, line)


if __name__ == "__main__":
    unittest.main()
