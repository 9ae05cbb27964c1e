"""How many things of a plain store are mutually tied at most."""

from thincoins.friends import Most, MostBreak
from thincoins.required import require_book, require_plain


def mutual(book):
    """The Most with the greatest number, or the MostBreak with the number ahead of the break."""
    require_book(book, "book")
    require_plain(book)
    twice, thinness = 2 * book.sizes[0], book.sorts[0][2]
    number = (twice - 1) // thinness + 1
    if number * thinness == twice:
        return MostBreak(number, None)
    return Most(number, None)
