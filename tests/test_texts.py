"""Items of texts: integers as they are written, and readers that start within a text."""

import unittest

from tests.asking import STRANGE, Asking
from thincoins.errors import BadText
from thincoins.texts import Reader, integer_of, items_of, row_text, rows_text


class TestIntegers(Asking):
    def test_as_written(self):
        for number in (0, 1, -1, 10, -10, 907, 10 ** 59, -(10 ** 59), 10 ** 60 - 1, 1 - 10 ** 60):
            self.exactly(integer_of(str(number)), number)

    def test_no_more_than_sixty_digits(self):
        for item in ("1" * 61, "-" + "1" * 61, "1" * 5000):
            self.assertIsNone(integer_of(item))

    def test_others(self):
        for item in ("", "-", "--1", "-0", "00", "01", "-01", "+1", "1-", " 1", "1 ", "1\n", "1.0", "1_0", "x", "\u0663"):
            self.assertIsNone(integer_of(item))


class TestItems(Asking):
    def test_items(self):
        self.exactly(items_of(""), [""])
        self.exactly(items_of("a  b "), ["a", "", "b", ""])
        self.exactly(items_of("a\tb\nc"), ["a\tb\nc"])
        for value in STRANGE:
            if not isinstance(value, str):
                self.refused(BadText(0, 0), items_of, value)

    def test_rows(self):
        self.exactly((row_text(()), row_text((1, -2))), ("", "1 -2"))
        self.exactly((rows_text(()), rows_text([(1,)]), rows_text([(1, 2), (3, 4)])), ("-", "1", "1 2 / 3 4"))

    def test_a_reader_counts_from_the_begin_of_the_text(self):
        reader = Reader("web a 0 : -5".split(" "), 2)
        self.refused(BadText(0, 2), reader.take_word, ":")
        self.refused(BadText(0, 2), reader.take_integer, 1, 2)
        self.refused(BadText(0, 2), reader.take_end)
        self.exactly(reader.take_integer(0, 0), 0)
        self.assertTrue(reader.sees(":") and not reader.sees("-5"))
        reader.take_word(":")
        self.exactly(reader.take_integer(-5, -5), -5)
        reader.take_end()
        self.refused(BadText(0, 5), reader.take_integer, 0, 9)
        self.refused(BadText(0, 5), reader.take_word, "x")
        self.assertFalse(reader.sees("x"))

    def test_items_of_lines(self):
        reader = Reader("drop a1 0 7".split(" "), 0)
        self.refused(BadText(0, 0), reader.take_one_of, ("dro", "drop a1"))
        self.exactly(reader.take_one_of(("tie", "drop")), "drop")
        self.refused(BadText(0, 1), reader.take_integer, None, None)
        self.exactly(reader.take_name(), "a1")
        self.refused(BadText(0, 2), reader.take_name)
        self.refused(BadText(0, 2), reader.take_integer, 1, None)
        self.exactly((reader.take_integer(0, None), reader.is_at_end()), (0, False))
        self.exactly((reader.take_integer(None, 7), reader.is_at_end()), (7, True))
        self.refused(BadText(0, 4), reader.take_name)
        self.refused(BadText(0, 4), reader.take_one_of, ("drop",))


if __name__ == "__main__":
    unittest.main()
