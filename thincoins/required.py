"""Books and webs as they are passed, and what is raised for others."""

from thincoins.books import Book
from thincoins.errors import BadBook, BadWeb, Misfit
from thincoins.webs import Web, fits


def require_book(value, name):
    """A book."""
    if not isinstance(value, Book):
        raise BadBook(name)


def require_web(value, name):
    """A web."""
    if not isinstance(value, Web):
        raise BadWeb(name)


def require_fit(book, web):
    """The web fits the book."""
    if not fits(book, web):
        raise Misfit("book")


def require_fitting(book, web):
    """A book, a web, and that the one fits the other."""
    require_book(book, "book")
    require_web(web, "web")
    require_fit(book, web)


def require_plain(book):
    """A book of one kind, and one sort between things of this kind."""
    if not book.is_plain:
        raise Misfit("plain")
