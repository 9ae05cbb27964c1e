"""The thin side: stores in which all pieces are trees of a few things."""

from thincoins.errors import Impossible, Misfit, TooMany
from thincoins.looking import NOT_TIED, SAME, TIED, holds_closed, require_closed, require_few_looks
from thincoins.papers import Denial, Paper
from thincoins.questions import require_question
from thincoins.required import require_book, require_plain
from thincoins.towns import lower_first
from thincoins.trees import trees

MOST_IN_PIECE = 4


class Trees(Paper):
    """All pieces are trees of so many things at most."""

    def __init__(self, number):
        super().__init__("trees", number)
        self.number = self.parts[0]


class TreesBreak(Denial):
    """Whether there are trees of so many things, none having more, hangs on luck."""

    def __init__(self, number):
        super().__init__("treesbreak", number)
        self.number = self.parts[0]


def require_thin(book):
    """A plain book whose thinness is above its size."""
    require_plain(book)
    if book.sorts[0][2] <= book.sizes[0]:
        raise Misfit("thin")


def most_in_tree(book):
    """How many things a tree that is light in the book has at most."""
    thinness = book.sorts[0][2]
    return (thinness - 1) // (thinness - book.sizes[0])


def greatest_tree(book):
    """The Trees with the greatest number, or the TreesBreak with the number that is on a break."""
    require_book(book, "book")
    require_thin(book)
    number, thinness = most_in_tree(book), book.sorts[0][2]
    if (number + 1) * (thinness - book.sizes[0]) == thinness:
        return TreesBreak(number + 1)
    return Trees(number)


def relation_in(pieces, one, other):
    """How two placed things stand to one another; each is told by the number of its piece and its own."""
    if one == other:
        return SAME
    if one[0] != other[0]:
        return NOT_TIED
    return TIED if lower_first((one[1], other[1])) in pieces[one[0]].ties else NOT_TIED


def things_in_pieces(kinds, pieces, placed, looks):
    """The things that can be placed next, as pairs (row, things behind it), so many looks deep: those of
    the pieces that were touched ahead, and those of a fresh piece of any of the trees."""
    if looks == 0:
        return []
    choices = [(its, pieces) for its in range(len(pieces))]
    choices.extend([(len(pieces), pieces + (tree,)) for tree in kinds])
    found = []
    for at, touched in choices:
        for number in range(touched[at].things):
            thing = (at, number)
            row = tuple([relation_in(touched, thing, other) for other in placed])
            found.append((row, things_in_pieces(kinds, touched, placed + (thing,), looks - 1)))
    return found


def thin_verdict(book, question):
    """Whether the closed question holds where each tree that can be a piece is one often enough."""
    require_book(book, "book")
    require_question(question, "question")
    require_thin(book)
    require_closed(question)
    require_few_looks(question)
    if most_in_tree(book) > MOST_IN_PIECE:
        raise TooMany("points", MOST_IN_PIECE)
    paper = greatest_tree(book)
    if paper.word == "treesbreak":
        raise Impossible(paper)
    kinds = list(trees(paper.number))
    return holds_closed(question, things_in_pieces(kinds, (), (), question.looks))
