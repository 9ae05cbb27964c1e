"""What the deed lines of a desk do, each with its answer."""

from thincoins.desk_lines import DEEDS, read_line_of
from thincoins.glued import glued
from thincoins.kept import require_kept
from thincoins.shelves import require_shelf, with_book, with_new_web, with_web_instead, without_web
from thincoins.webs import Web


def book_deed(shelf, book):
    """Keeps the book; how many sorts it has."""
    return (with_book(shelf, book), len(book.sorts))


def size_deed(shelf, kind, size):
    """Gives a kind of the book this size; the size that it had."""
    book = shelf.book.with_size(kind, size)
    return (with_book(shelf, book), shelf.book.sizes[kind])


def thin_deed(shelf, sort, thinness):
    """Gives a sort of the book this thinness; the thinness that it had."""
    book = shelf.book.with_thinness(sort, thinness)
    return (with_book(shelf, book), shelf.book.sorts[sort][2])


def web_deed(shelf, name, web):
    """Keeps the web; how many points it has."""
    return (with_new_web(shelf, name, web), web.points)


def tied_deed(shelf, name, points):
    """Keeps a web of points that are mutually tied; how many ties it has."""
    return new_with_ties(shelf, name, Web.all_tied(points))


def ring_deed(shelf, name, points):
    """Keeps a ring; how many ties it has."""
    return new_with_ties(shelf, name, Web.ring(points))


def way_deed(shelf, name, ties):
    """Keeps a way; how many ties it has."""
    return new_with_ties(shelf, name, Web.way(ties))


def new_with_ties(shelf, name, web):
    """Keeps the web; how many ties it has."""
    return (with_new_web(shelf, name, web), len(web.ties))


def tie_deed(shelf, name, point, other, sort):
    """Puts a tie in the web; how many it has."""
    web = shelf.web(name).with_tie(point, other, sort)
    return (with_web_instead(shelf, name, web), len(web.ties))


def strike_deed(shelf, name, *numbers):
    """Takes these ties out of the web; how many are left."""
    web = shelf.web(name).without_ties(numbers)
    return (with_web_instead(shelf, name, web), len(web.ties))


def beside_deed(shelf, name, one, other):
    """Keeps one web beside the other; how many points it has."""
    return web_deed(shelf, name, shelf.web(one).beside(shelf.web(other)))


def glue_deed(shelf, name, one, other, point, its):
    """Keeps one web glued to the other by a pair of points; how many points it has."""
    return web_deed(shelf, name, glued(shelf.web(one), shelf.web(other), [(point, its)]))


def part_deed(shelf, name, whole, *points):
    """Keeps the web of these points of another one; how many ties it has."""
    return new_with_ties(shelf, name, shelf.web(whole).part(points))


def drop_deed(shelf, name):
    """Takes out the web; how many are kept."""
    later = without_web(shelf, name)
    return (later, len(later.webs))


STEPS = {
    "book": book_deed,
    "size": size_deed,
    "thin": thin_deed,
    "web": web_deed,
    "tied": tied_deed,
    "ring": ring_deed,
    "way": way_deed,
    "tie": tie_deed,
    "strike": strike_deed,
    "beside": beside_deed,
    "glue": glue_deed,
    "part": part_deed,
    "drop": drop_deed,
}


def changed(shelf, line):
    """The pair of the shelf behind a deed line, and the answer."""
    require_shelf(shelf, "shelf")
    told = read_line_of(line, DEEDS)
    require_kept(shelf, told)
    deed = STEPS[told[0]]
    rest = told[1:]
    later, number = deed(shelf, *rest)
    return (later, str(number))
