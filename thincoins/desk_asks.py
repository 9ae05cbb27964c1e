"""What the ask lines of a desk are answered."""

from thincoins.desk_lines import ASKS, read_line_of
from thincoins.dials import dial
from thincoins.farthest import farthest
from thincoins.friends import friends
from thincoins.handings import comes
from thincoins.heavy import fewest_struck, heavy_parts
from thincoins.hulls import hull
from thincoins.kept import require_kept
from thincoins.layings import alike, many_layings
from thincoins.moments import at_least, at_most
from thincoins.mutual import mutual
from thincoins.named import everywhere
from thincoins.shelves import require_shelf
from thincoins.texts import row_text, rows_text
from thincoins.thinside import greatest_tree
from thincoins.threelooks import verdict
from thincoins.weights import weight


def row_or_dash(row):
    """What stands in the row, with single blanks between; a dash for nothing."""
    return row_text(row) if len(row) > 0 else "-"


def word_and_first(paper):
    """The word of the paper, and its first part if it has parts."""
    return row_text((paper.word,) + paper.parts[:1])


def names_answer(shelf):
    """The names, in their order."""
    return row_or_dash(shelf.names)


def show_answer(shelf, name):
    """The text of the web."""
    return str(shelf.web(name))


def told_answer(shelf):
    """The text of the book."""
    return str(shelf.book)


def laid_answer(shelf, name, other):
    """How many layings the one web has on the other."""
    return str(many_layings(shelf.web(name), shelf.web(other)))


def alike_answer(shelf, name, other):
    """Whether the webs are alike."""
    return alike(shelf.web(name), shelf.web(other)).word


def weight_answer(shelf, name):
    """The weight of all points."""
    return str(weight(shelf.book, shelf.web(name)))


def comes_answer(shelf, name):
    """Whether the web comes."""
    return comes(shelf.book, shelf.web(name)).word


def heavy_answer(shelf, name):
    """The heavy parts without a heavy one within."""
    return rows_text(heavy_parts(shelf.book, shelf.web(name)))


def struck_answer(shelf, name):
    """The fewest ties without which the web comes."""
    return row_or_dash(fewest_struck(shelf.book, shelf.web(name)))


def dial_answer(shelf, name, sort):
    """How thin the sort may be."""
    paper = dial(shelf.book, shelf.web(name), sort)
    return row_text((paper.word,) + paper.ratio) if paper.word == "dial" else paper.word


def bounds_answer(shelf, name, m):
    """The two bounds of the chance of a laying at m."""
    least = at_least(shelf.book, shelf.web(name), m)
    return rows_text([least, at_most(shelf.book, shelf.web(name), m)])


def round_answer(shelf, name, *points):
    """Whether the web is everywhere round these names."""
    return everywhere(shelf.book, shelf.web(name), points).word


def hull_answer(shelf, name, *points):
    """The points of the hull of these names."""
    return row_or_dash(hull(shelf.book, shelf.web(name), points).part)


def friends_answer(shelf, kind, *sorts):
    """How many friends there are at most."""
    return word_and_first(friends(shelf.book, kind, sorts))


def mutual_answer(shelf):
    """How many things are mutually tied at most."""
    return word_and_first(mutual(shelf.book))


def farthest_answer(shelf):
    """How far apart the farthest two are."""
    return word_and_first(farthest(shelf.book))


def tree_answer(shelf):
    """How many things the trees have at most."""
    return word_and_first(greatest_tree(shelf.book))


def asked_answer(shelf, question):
    """Whether the question holds."""
    return "yes" if verdict(shelf.book, question) else "no"


ANSWERS = {
    "names": names_answer,
    "show": show_answer,
    "told": told_answer,
    "laid": laid_answer,
    "alike": alike_answer,
    "weight": weight_answer,
    "comes": comes_answer,
    "heavy": heavy_answer,
    "struck": struck_answer,
    "dial": dial_answer,
    "bounds": bounds_answer,
    "round": round_answer,
    "hull": hull_answer,
    "friends": friends_answer,
    "mutual": mutual_answer,
    "farthest": farthest_answer,
    "tree": tree_answer,
    "asked": asked_answer,
}


def answer_of(shelf, line):
    """The answer to an ask line."""
    require_shelf(shelf, "shelf")
    told = read_line_of(line, ASKS)
    require_kept(shelf, told)
    asked = ANSWERS[told[0]]
    rest = told[1:]
    return asked(shelf, *rest)
