"""Shelves: what a desk keeps, a book and webs under their names."""

from thincoins.books import Book
from thincoins.checks import first_twice, is_list, is_name
from thincoins.errors import BadBook, BadDesk, NoName, Twice
from thincoins.webs import Web


def is_named_web(value):
    """Whether it is a pair of a name and a web."""
    return is_list(value) and len(value) == 2 and is_name(value[0]) and isinstance(value[1], Web)


def require_shelf(value, name):
    """A shelf."""
    if not isinstance(value, Shelf):
        raise BadDesk(name)


class Shelf:
    """A book, or None, and pairs of a name and a web, in the order in which they were put in."""

    def __init__(self, book=None, webs=()):
        if book is not None and not isinstance(book, Book):
            raise BadBook("book")
        if not is_list(webs) or not all([is_named_web(pair) for pair in webs]):
            raise BadDesk("webs")
        twice = first_twice([pair[0] for pair in webs])
        if twice is not None:
            raise Twice(twice)
        self.book = book
        self.webs = tuple([(name, web) for name, web in webs])
        self.names = tuple([pair[0] for pair in webs])

    def __eq__(self, other):
        return isinstance(other, Shelf) and self.book == other.book and self.webs == other.webs

    def web(self, name):
        """The web that is kept under the name."""
        if not is_name(name) or name not in self.names:
            raise NoName(name)
        return self.webs[self.names.index(name)][1]


def shelf_of(book, webs):
    """The shelf of what is known to be right, so that it is not gone through again."""
    shelf = Shelf(book)
    shelf.webs = tuple(webs)
    shelf.names = tuple([pair[0] for pair in webs])
    return shelf


def with_book(shelf, book):
    """The shelf with this book."""
    return shelf_of(book, shelf.webs)


def with_new_web(shelf, name, web):
    """The shelf with a web more, the last one."""
    return shelf_of(shelf.book, shelf.webs + ((name, web),))


def with_web_instead(shelf, name, web):
    """The shelf with this web in the place of the one that was kept under the name."""
    return shelf_of(shelf.book, [(its, web if its == name else kept) for its, kept in shelf.webs])


def without_web(shelf, name):
    """The shelf without the web of this name."""
    return shelf_of(shelf.book, [pair for pair in shelf.webs if pair[0] != name])
