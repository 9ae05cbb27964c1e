"""How far apart the farthest two things of a plain store are."""

from thincoins.papers import Denial, Paper
from thincoins.required import require_book, require_plain


class Steps(Paper):
    """The farthest two are so far apart."""

    def __init__(self, number):
        super().__init__("steps", number)
        self.number = self.parts[0]


class Apart(Denial):
    """Some two are not joined by ties at all."""

    def __init__(self):
        super().__init__("apart")


def farthest(book):
    """The Steps with the least number of ties that joins each two, or the Apart."""
    require_book(book, "book")
    require_plain(book)
    size = book.sizes[0]
    gain = size - book.sorts[0][2]
    if gain <= 0:
        return Apart()
    return Steps(size // gain + 1)
