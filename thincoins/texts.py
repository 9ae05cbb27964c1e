"""Texts: items with single blanks between, written and read one by one."""

from thincoins.checks import DIGITS, is_name, is_within
from thincoins.errors import BadText

MOST_DIGITS = 60


def items_of(text):
    """The items of a text; what is no string has none."""
    if not isinstance(text, str):
        raise BadText(0, 0)
    return text.split(" ")


def integer_of(item):
    """The integer that the item writes, or None if it writes none."""
    digits = item[1:] if item.startswith("-") else item
    if not 1 <= len(digits) <= MOST_DIGITS:
        return None
    if not all([char in DIGITS for char in digits]):
        return None
    if digits[0] == "0" and item != "0":
        return None
    return int(item)


def row_text(row):
    """The integers of a row with single blanks between."""
    return " ".join([str(one) for one in row])


def rows_text(rows):
    """The rows with strokes between; a dash stands for none."""
    if len(rows) == 0:
        return "-"
    return " / ".join([row_text(row) for row in rows])


class Reader:
    """Takes the items of a text one by one; the first that cannot stand is told by its index."""

    def __init__(self, words, taken):
        self.words = tuple(words)
        self.taken = taken

    def sees(self, word):
        """Whether this item comes next."""
        return self.taken < len(self.words) and self.words[self.taken] == word

    def take_word(self, word):
        """Takes this item, which must come next."""
        if not self.sees(word):
            raise BadText(0, self.taken)
        self.taken += 1

    def take_one_of(self, words):
        """Takes one of these items, which must come next, and returns it."""
        if self.is_at_end() or self.words[self.taken] not in words:
            raise BadText(0, self.taken)
        self.taken += 1
        return self.words[self.taken - 1]

    def take_integer(self, least, most):
        """Takes an item that writes an integer from least to most, and returns the integer; None is
        no bound."""
        if self.is_at_end():
            raise BadText(0, self.taken)
        number = integer_of(self.words[self.taken])
        if not is_within(number, least, most):
            raise BadText(0, self.taken)
        self.taken += 1
        return number

    def take_name(self):
        """Takes an item that can name a web at a desk, and returns it."""
        if self.is_at_end() or not is_name(self.words[self.taken]):
            raise BadText(0, self.taken)
        self.taken += 1
        return self.words[self.taken - 1]

    def is_at_end(self):
        """Whether all items are taken."""
        return self.taken == len(self.words)

    def take_end(self):
        """Nothing more must come."""
        if not self.is_at_end():
            raise BadText(0, self.taken)
