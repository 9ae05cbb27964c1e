"""The cells of plain books, their views, and questions with three looks answered by them."""

from thincoins.checks import compared, lowest
from thincoins.errors import Impossible
from thincoins.looking import holds_closed, require_closed, require_few_looks
from thincoins.numbered import require_number
from thincoins.papers import Denial
from thincoins.questions import require_question
from thincoins.required import require_book, require_plain
from thincoins.sights import things_by_views
from thincoins.views import views_of_town

# The ratio at which each cell begins; from FIRST_BREAK on it is a break, which is in no cell.
LOWS = ((0, 1), (1, 2), (2, 3), (1, 1), (7, 6), (6, 5), (5, 4), (4, 3), (3, 2), (2, 1))
FIRST_BREAK = 3
LAST_CELL = 9
# The views of the cells ahead of the first break.
THICK_VIEWS = (
    (((0, (0, 1, 2, 3)), (1, (0, 1, 2, 3))),),
    (((0, (0, 1, 2)), (0, (0, 1, 2, 3)), (1, (0, 1, 2)), (1, (0, 1, 2, 3))),),
    (
        ((0, (0, 1, 2)), (0, (0, 1, 2, 3)), (1, (0, 1, 2))),
        ((0, (0, 1, 2)), (0, (0, 1, 2, 3)), (1, (0, 1, 2)), (1, (0, 1, 2, 3))),
    ),
)
# The least things of a tree that has the view, the thing, its neighbours, those beyond them.
IN_TREES = (
    (1, "alone", (), ()),
    (2, "end", ("end",), ()),
    (3, "end", ("inner",), ("end",)),
    (3, "inner", ("end",), ()),
    (4, "end", ("inner",), ("inner",)),
    (4, "inner", ("end", "inner"), ("end",)),
    (5, "end", ("inner",), ("end", "inner")),
    (5, "inner", ("end", "inner"), ("inner",)),
    (5, "inner", ("inner",), ("end",)),
    (6, "inner", ("end", "inner"), ("end", "inner")),
    (6, "inner", ("inner",), ("end", "inner")),
    (7, "inner", ("inner",), ("inner",)),
)


class DialBreak(Denial):
    """Thinness by size is this break."""

    def __init__(self, ratio):
        super().__init__("dialbreak", ratio)
        self.ratio = self.parts[0]


def cell_of_plain(book):
    """The number of the cell of a plain book."""
    ratio = lowest(book.sorts[0][2], book.sizes[0])
    if ratio in LOWS[FIRST_BREAK:]:
        raise Impossible(DialBreak(ratio))
    return len([low for low in LOWS if compared(low, ratio) <= 0]) - 1


def cell_of(book):
    """The number of the cell of the book."""
    require_book(book, "book")
    require_plain(book)
    return cell_of_plain(book)


def sight_in_trees(tied, numbers, own, its):
    """The sight of a thing on another one, of these thirds, and of one tied to the thing alone if it has
    such an own one, and of one tied to the other alone if that one has it."""
    more = ([2] if own else []) + ([1] if its else [])
    return (tied, tuple(sorted(numbers + more)))


def view_in_trees(row, most):
    """The view of a thing of a row of IN_TREES in a town of many copies of all trees of at most so many
    things."""
    _, what, neighbours, beyond = row
    inner, tied = what == "inner", what != "alone"
    sights = [sight_in_trees(0, [0], tied, False)]
    if most > 1:
        sights.append(sight_in_trees(0, [0], tied, True))
    for near in neighbours:
        sights.append(sight_in_trees(1, [0], inner, near == "inner"))
    for far in beyond:
        sights.append(sight_in_trees(0, [0, 3], inner, far == "inner"))
    return tuple(sorted(sights))


def views_of_cell(cell):
    """The views of the cell."""
    require_number(cell, 0, LAST_CELL, "cell")
    if cell < FIRST_BREAK:
        return THICK_VIEWS[cell]
    # In cell 9 pieces are single things, and in each cell ahead they may have one thing more.
    most = LAST_CELL + 1 - cell
    return tuple(sorted([view_in_trees(row, most) for row in IN_TREES if row[0] <= most]))


def cell_of_town(town):
    """The number of the cell whose views the town has, or None."""
    views = views_of_town(town)
    for cell in range(LAST_CELL + 1):
        if views_of_cell(cell) == views:
            return cell
    return None


def holds_in_cell(cell, question):
    """Whether the closed question holds by the views of the cell."""
    return holds_closed(question, things_by_views(views_of_cell(cell)))


def verdict(book, question):
    """Whether the closed question holds by the views of the cell of the book."""
    require_book(book, "book")
    require_question(question, "question")
    require_plain(book)
    require_closed(question)
    require_few_looks(question)
    return holds_in_cell(cell_of_plain(book), question)
