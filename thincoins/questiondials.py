"""What questions are answered as the thinness by the size is turned."""

from thincoins.looking import require_answerable, require_closed, require_few_looks
from thincoins.questions import require_question
from thincoins.threelooks import LAST_CELL, LOWS, holds_in_cell


def answers_by_cell(question):
    """The answers to the closed question, cell by cell."""
    return [holds_in_cell(cell, question) for cell in range(LAST_CELL + 1)]


def question_dial(question):
    """The pairs ((low, high), answer), cell by cell."""
    require_answerable(question)
    highs = list(LOWS[1:]) + [None]
    return tuple([((LOWS[cell], highs[cell]), told) for cell, told in enumerate(answers_by_cell(question))])


def changes(question):
    """The low ratios of the cells with another answer than the cell ahead."""
    require_answerable(question)
    told = answers_by_cell(question)
    return tuple([LOWS[cell] for cell in range(1, LAST_CELL + 1) if told[cell] != told[cell - 1]])


def parting_cells(one, other):
    """The cells in which the two closed questions have unlike answers."""
    require_question(one, "one")
    require_question(other, "other")
    require_closed(one)
    require_closed(other)
    require_few_looks(one)
    require_few_looks(other)
    told, its = answers_by_cell(one), answers_by_cell(other)
    return tuple([cell for cell in range(LAST_CELL + 1) if told[cell] != its[cell]])
